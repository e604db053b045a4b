/- What is proved here: code.readAct of right terms that lie in memory returns what rdA says, in new memory. No condition but that. -/
import Derived.Test.YtmmahddlcldmiaaGreatJ28
namespace Go.Proofs.YtmmahddlcldmiaaGreat
open Go.RowKit Go.Proofs.Tryz
set_option maxHeartbeats 4000000
set_option maxRecDepth 100000
theorem ko(l:List UInt8):(⟨l.toArray⟩:ByteArray).toList=l:=by rw[cu]
theorem ny(a:ByteArray)(l:List UInt8):s9 a ⟨l.toArray⟩=(a.toList==l):=by
 show (a.toList==(⟨l.toArray⟩:ByteArray).toList)=(a.toList==l);rw[show (⟨l.toArray⟩:ByteArray).toList=l from ko l]
theorem eC{w w1:World}{a b:Obj}(c:Below ((w.alloc a).alloc b).heap.size ((w.alloc a).alloc b) w1):w1.heap[w.heap.size]?=some a/\w1.heap[w.heap.size+1]?=some b/\aj w w1/\w.heap.size+2<=w1.heap.size:=by
 have f:=c.size;have e:((w.alloc a).alloc b).heap.size=w.heap.size+2:=by simp
 have d:aj w ((w.alloc a).alloc b):=by go_grown
 exact⟨(c.block _ (by omega)).trans (km w a b).1,(c.block _ (by omega)).trans (km w a b).2,d.trans (c.mono d.size),by omega⟩
theorem jz(M _n:Nat)(k u:Int)(s:ByteArray)(xa:Option Addr)(j xc:Nat)(b:ByteArray)(a:Option Addr)(len c:Nat)(w:World)(o:Option (Ac (M+1)))(p:Hid (o=none)){t1 t2 t3 t4:Bool}(r:(b.toList==[115,101,110,100])=t1)(t:(b.toList==[115,112,97,119,110])=t2)(x:(b.toList==[108,105,110,107])=t3)(y:(b.toList==[115,116,111,112])=t4)(n:(t1=false/\t2=false/\t3=false/\t4=false)\/(t1=true/\t2=false/\t3=false/\t4=false/\((len:Int)==2)=false)\/(t1=false/\t2=true/\t3=false/\t4=false/\((len:Int)==3)=false)\/(t1=false/\t2=false/\t3=true/\t4=false/\((len:Int)==1)=false)\/(t1=false/\t2=false/\t3=false/\t4=true/\((len:Int)==0)=false))(f:Hid (∀w1,aj w w1->ak 104 #[.agg #[ab k,ab u,af s,ae xa j xc]] w1 λe w'=>e=.returned (.tuple #[af b,ae a len c])/\aj w1 w')):ak 182 #[.agg #[ab k,ab u,af s,ae xa j xc]] w (nL M o w):=by
 rcases n with⟨rfl,rfl,rfl,rfl⟩|⟨rfl,rfl,rfl,rfl,d⟩|⟨rfl,rfl,rfl,rfl,d⟩|⟨rfl,rfl,rfl,rfl,d⟩|⟨rfl,rfl,rfl,rfl,d⟩
 all_goals
  go_enter func182,ntmps182;go_wp2_with fail;refine(f _ (by go_grown)).mono ?_;rintro e w1 ⟨rfl,g⟩;obtain⟨q,i,h,A⟩:=eC g;have l:=ap h;have m:=ap i;clear g q i h f;obtain⟨⟨d0,d1,d2,d3,d4,d5,d6,d7,d8,d9,d10⟩,f0,z⟩:=l9 m;go_wp2_with fail;exact av (v:=.tuple #[.agg #[ab 0,ab 0,ab 0,af .empty,ae none 0 0,ab 0,ab 0,af .empty,ae none 0 0,af .empty,ab 0],.bool false]) (by simp[results,results182,go_sem,d0,d1,d2,d3,d4,d5,d6,d7,d8,d9,d10];rfl) rfl (qv p ((ki _ _ _ _ _ _ _ _ _ _ _ _ _).below l (by omega)))
theorem zK(M _n:Nat)(k u:Int)(s:ByteArray)(xa:Option Addr)(j xc:Nat)(b:ByteArray)(a:Option Addr)(len c:Nat)(w:World)(o:Option (Ac (M+1)))(n:Hid (o=some (4,(zT M,zT M),(.empty,0))))(q:(b.toList==[115,101,110,100])=false)(r:(b.toList==[115,112,97,119,110])=false)(t:(b.toList==[108,105,110,107])=false)(x:(b.toList==[115,116,111,112])=true)(y:((len:Int)==0)=true)(d:Hid (∀w1,aj w w1->ak 104 #[.agg #[ab k,ab u,af s,ae xa j xc]] w1 λe w'=>e=.returned (.tuple #[af b,ae a len c])/\aj w1 w')):ak 182 #[.agg #[ab k,ab u,af s,ae xa j xc]] w (nL M o w):=by
 go_enter func182,ntmps182;go_wp2_with fail;refine(d _ (by go_grown)).mono ?_;rintro e w1 ⟨rfl,f⟩;obtain⟨p,i,h,A⟩:=eC f;have l:=ap h;have m:=ap i;clear f p i h d;obtain⟨⟨d0,d1,d2,d3,d4,d5,d6,d7,d8,d9,d10⟩,f0,z⟩:=l9 m;go_wp2_with fail;refine av (v:=.tuple #[.agg #[ab 4,ab 0,ab 0,af ⟨#[]⟩,ae none 0 0,ab 0,ab 0,af ⟨#[]⟩,ae none 0 0,af ⟨#[]⟩,ab 0],.bool true]) (by simp[results,results182,go_sem,d0,d1,d2,d3,d4,d5,d6,d7,d8,d9,d10]) rfl ?_;exact nB (g:=w.heap.size+1) (w2:=w1) (w:=w) (4,(zT M,zT M),(.empty,0)) _ n (ki _ _ _ _ _ _ _ _ _ _ _ _ _) l (by omega) ⟨by simp[dx],lA _ _ _,lA _ _ _,aH _,by simp[dx]⟩ ⟨ah rfl,ah rfl⟩ ⟨rfl,lL (lA _ 0 w),lL (lA _ 0 w),rfl⟩
theorem zI(M n:Nat)(k u:Int)(s:ByteArray)(xa:Option Addr)(B xc:Nat)(h:ByteArray)(d po c:Nat)(w:World)(y:Tm (n+1))(I:n+1<=M+1)(o:Option (Ac (M+1)))(J:Hid (o=some (3,(aT (M+1) (n+1) y,zT M),(.empty,0))))(L:(h.toList==[115,101,110,100])=false)(N:(h.toList==[115,112,97,119,110])=false)(O:(h.toList==[108,105,110,107])=true)(_b4:(h.toList==[115,116,111,112])=false)(i:d<w.heap.size)(C:w.cell? ⟨d,po,none⟩=some (ab y.1.1))(D:w.cell? ⟨d,po+1,none⟩=some (ab y.1.2.1))(E:w.cell? ⟨d,po+2,none⟩=some (af y.1.2.2))(F:w.cell? ⟨d,po+3,none⟩=some (ae y.2.1.1 y.2.2.length y.2.1.2))(m:Hid (∀w1,aj w w1->ak 104 #[.agg #[ab k,ab u,af s,ae xa B xc]] w1 λe w'=>e=.returned (.tuple #[af h,ae (some ⟨d,po,none⟩) 1 c])/\aj w1 w'))(l:Hid (∀w1,aj w w1->ak 56 #[.agg #[ab y.1.1,ab y.1.2.1,af y.1.2.2,ae y.2.1.1 y.2.2.length y.2.1.2]] w1 λe w'=>∃a:Tm (n+1),e=.returned (.agg #[ab a.1.1,ab a.1.2.1,af a.1.2.2,ae a.2.1.1 a.2.2.length a.2.1.2])/\Hid (aj w1 w'/\In w'.heap.size w' (n+1) a/\ch (λq=>w1.heap.size<=q) (n+1) a/\ax (n+1) a (n+1) y=true))):ak 182 #[.agg #[ab k,ab u,af s,ae xa B xc]] w (nL M o w):=by
 go_enter func182,ntmps182;go_wp2_with fail;refine(m _ (by go_grown)).mono ?_;rintro e w1 ⟨rfl,t⟩;obtain⟨K,z,x,S⟩:=eC t;have b:=ap x;have p:=ap z;clear t K z x m;replace C:=(aq b _ _ i).trans C;replace D:=(aq b _ _ i).trans D;replace E:=(aq b _ _ i).trans E;replace F:=(aq b _ _ i).trans F;have P:d<w1.heap.size:=by omega
 go_wp2_with fail;refine(l _ b).mono ?_;rintro e w2 ⟨a,rfl,f⟩;have G:Hid (aj w w2):=b.trans (f.1.mono b.size);have r:=ap ((f.1.block (w.heap.size+1) (by omega)).trans p);obtain⟨⟨d0,d1,d2,d3,d4,d5,d6,d7,d8,d9,d10⟩,f0,R⟩:=l9 r;have j:=iT (M:=M) I f.2.1 (f.2.2.1.mono λq (Q:w1.heap.size<=q)=>(show w.heap.size+1<q by omega)) f.2.2.2;clear l p r;go_wp2_with fail;refine av (v:=.tuple #[.agg #[ab 3,ab a.1.1,ab a.1.2.1,af a.1.2.2,ae a.2.1.1 a.2.2.length a.2.1.2,ab 0,ab 0,af ⟨#[]⟩,ae none 0 0,af ⟨#[]⟩,ab 0],.bool true]) (by simp[results,results182,go_sem,d0,d1,d2,d3,d4,d5,d6,d7,d8,d9,d10]) rfl ?_;have e:f9 (M+1) (3,(aT (M+1) (n+1) a,zT M),(.empty,0))=[ab 3,ab a.1.1,ab a.1.2.1,af a.1.2.2,ae a.2.1.1 a.2.2.length a.2.1.2,ab 0,ab 0,af ⟨#[]⟩,ae none 0 0,af ⟨#[]⟩,ab 0]:=by
  show ab 3::(iq (M+1) (aT (M+1) (n+1) a)++iq (M+1) (zT M)++ [af .empty,ab 0])=_;rw[gq];rfl
 have A:=λ(w':World)(H:bK (w.heap.size+1) w2 w')=>nB (g:=w.heap.size+1) (w2:=w2) (w:=w) (3,(aT (M+1) (n+1) a,zT M),(.empty,0)) _ J H G (by omega) ⟨by simp[dx],j.1,lA _ _ _,aH _,by simp[dx]⟩ ⟨j.2.1,ah rfl⟩ ⟨rfl,j.2.2,lL (lA _ 0 w),rfl⟩;rw[e]at A;exact A _ (ki _ _ _ _ _ _ _ _ _ _ _ _ _)
theorem MQ{g a po:Nat}{w w':World}{y x:Nd}(d:a<g)(c:bK g w w')(k:(w.cell? ⟨a,po,none⟩=some (ab y.1.1)/\w.cell? ⟨a,po+1,none⟩=some (ab y.1.2.1)/\w.cell? ⟨a,po+2,none⟩=some (af y.1.2.2)/\w.cell? ⟨a,po+3,none⟩=some (ae y.2.1 y.2.2.1 y.2.2.2))/\(w.cell? ⟨a,po+4,none⟩=some (ab x.1.1)/\w.cell? ⟨a,po+5,none⟩=some (ab x.1.2.1)/\w.cell? ⟨a,po+6,none⟩=some (af x.1.2.2)/\w.cell? ⟨a,po+7,none⟩=some (ae x.2.1 x.2.2.1 x.2.2.2))):(w'.cell? ⟨a,po,none⟩=some (ab y.1.1)/\w'.cell? ⟨a,po+1,none⟩=some (ab y.1.2.1)/\w'.cell? ⟨a,po+2,none⟩=some (af y.1.2.2)/\w'.cell? ⟨a,po+3,none⟩=some (ae y.2.1 y.2.2.1 y.2.2.2))/\(w'.cell? ⟨a,po+4,none⟩=some (ab x.1.1)/\w'.cell? ⟨a,po+5,none⟩=some (ab x.1.2.1)/\w'.cell? ⟨a,po+6,none⟩=some (af x.1.2.2)/\w'.cell? ⟨a,po+7,none⟩=some (ae x.2.1 x.2.2.1 x.2.2.2)):=by
 have b:=λo=>fX c (show a≠g by omega) o;exact⟨⟨(b _).trans k.1.1,(b _).trans k.1.2.1,(b _).trans k.1.2.2.1,(b _).trans k.1.2.2.2⟩,(b _).trans k.2.1,(b _).trans k.2.2.1,(b _).trans k.2.2.2.1,(b _).trans k.2.2.2.2⟩
theorem zJ(M n:Nat)(k u:Int)(s:ByteArray)(xa:Option Addr)(S xc:Nat)(l:ByteArray)(a po c:Nat)(w:World)(y x:Tm (n+1))(P:n+1<=M+1)(o:Option (Ac (M+1)))(aa:Hid (o=some (1,(aT (M+1) (n+1) y,aT (M+1) (n+1) x),(.empty,0))))(al:(l.toList==[115,101,110,100])=true)(_b2:(l.toList==[115,112,97,119,110])=false)(_b3:(l.toList==[108,105,110,107])=false)(_b4:(l.toList==[115,116,111,112])=false)(h:a<w.heap.size)(F:w.cell? ⟨a,po,none⟩=some (ab y.1.1))(G:w.cell? ⟨a,po+1,none⟩=some (ab y.1.2.1))(H:w.cell? ⟨a,po+2,none⟩=some (af y.1.2.2))(I:w.cell? ⟨a,po+3,none⟩=some (ae y.2.1.1 y.2.2.length y.2.1.2))(B:w.cell? ⟨a,po+4,none⟩=some (ab x.1.1))(C:w.cell? ⟨a,po+5,none⟩=some (ab x.1.2.1))(D:w.cell? ⟨a,po+6,none⟩=some (af x.1.2.2))(E:w.cell? ⟨a,po+7,none⟩=some (ae x.2.1.1 x.2.2.length x.2.1.2))(L:Hid (∀w1,aj w w1->ak 104 #[.agg #[ab k,ab u,af s,ae xa S xc]] w1 λe w'=>e=.returned (.tuple #[af l,ae (some ⟨a,po,none⟩) 2 c])/\aj w1 w'))(J:Hid (∀w1,aj w w1->ak 56 #[.agg #[ab y.1.1,ab y.1.2.1,af y.1.2.2,ae y.2.1.1 y.2.2.length y.2.1.2]] w1 λe w'=>∃b:Tm (n+1),e=.returned (.agg #[ab b.1.1,ab b.1.2.1,af b.1.2.2,ae b.2.1.1 b.2.2.length b.2.1.2])/\Hid (aj w1 w'/\In w'.heap.size w' (n+1) b/\ch (λq=>w1.heap.size<=q) (n+1) b/\ax (n+1) b (n+1) y=true)))(K:Hid (∀w1,aj w w1->ak 56 #[.agg #[ab x.1.1,ab x.1.2.1,af x.1.2.2,ae x.2.1.1 x.2.2.length x.2.1.2]] w1 λe w'=>∃b:Tm (n+1),e=.returned (.agg #[ab b.1.1,ab b.1.2.1,af b.1.2.2,ae b.2.1.1 b.2.2.length b.2.1.2])/\Hid (aj w1 w'/\In w'.heap.size w' (n+1) b/\ch (λq=>w1.heap.size<=q) (n+1) b/\ax (n+1) b (n+1) x=true))):ak 182 #[.agg #[ab k,ab u,af s,ae xa S xc]] w (nL M o w):=by
 go_enter func182,ntmps182;go_wp2_with fail;refine(L _ (by go_grown)).mono ?_;rintro e w1 ⟨rfl,N⟩;obtain⟨ah,Q,O,ar⟩:=eC N;have d:=ap O;have V:=ap Q;clear N ah Q O L;replace F:=(aq d _ _ h).trans F;replace G:=(aq d _ _ h).trans G;replace H:=(aq d _ _ h).trans H;replace I:=(aq d _ _ h).trans I;replace B:=(aq d _ _ h).trans B;replace C:=(aq d _ _ h).trans C;replace D:=(aq d _ _ h).trans D;replace E:=(aq d _ _ h).trans E;have ad:a<w1.heap.size:=by omega
 have p:Hid (∀w',aj w1 w'->(w'.cell? ⟨a,po,none⟩=some (ab y.1.1)/\w'.cell? ⟨a,po+1,none⟩=some (ab y.1.2.1)/\w'.cell? ⟨a,po+2,none⟩=some (af y.1.2.2)/\w'.cell? ⟨a,po+3,none⟩=some (ae y.2.1.1 y.2.2.length y.2.1.2))/\(w'.cell? ⟨a,po+4,none⟩=some (ab x.1.1)/\w'.cell? ⟨a,po+5,none⟩=some (ab x.1.2.1)/\w'.cell? ⟨a,po+6,none⟩=some (af x.1.2.2)/\w'.cell? ⟨a,po+7,none⟩=some (ae x.2.1.1 x.2.2.length x.2.1.2))):=λw' X=>by
  have f:=λo=>aq X a o ad;exact⟨⟨(f _).trans F,(f _).trans G,(f _).trans H,(f _).trans I⟩,(f _).trans B,(f _).trans C,(f _).trans D,(f _).trans E⟩
 go_wp2_with fail
 go_region_held3 (λw'=>(w'.cell? ⟨a,po,none⟩=some (ab y.1.1)/\w'.cell? ⟨a,po+1,none⟩=some (ab y.1.2.1)/\w'.cell? ⟨a,po+2,none⟩=some (af y.1.2.2)/\w'.cell? ⟨a,po+3,none⟩=some (ae y.2.1.1 y.2.2.length y.2.1.2))/\(w'.cell? ⟨a,po+4,none⟩=some (ab x.1.1)/\w'.cell? ⟨a,po+5,none⟩=some (ab x.1.2.1)/\w'.cell? ⟨a,po+6,none⟩=some (af x.1.2.2)/\w'.cell? ⟨a,po+7,none⟩=some (ae x.2.1.1 x.2.2.length x.2.1.2))) (first|with_reducible assumption|with_reducible exact p.out _ m.out|with_reducible exact p.out _ j.out|with_reducible exact U.out _ (ki _ _ _ _ _ _ _ _ _ _ _ _ _)|exact p.out _ (ao _ _).drew)
  ((first
   | (go_at_call 56;refine(J _ d.drew).mono ?_;rintro e w2 ⟨b,rfl,r⟩;have j:=ap (cM r.1);clear J)
   | (go_at_call 56;refine(K _ (d.trans (j.mono d.size))).mono ?_;rintro e t ⟨q,rfl,i⟩;have m:=ap (j.trans (i.1.mono j.size));clear K;have W:=ap ((m.block (w.heap.size+1) (by omega)).trans V);obtain⟨⟨d0,d1,d2,d3,d4,d5,d6,d7,d8,d9,d10⟩,f0,an⟩:=l9 W;have U:Hid (∀w',bK (w.heap.size+1) t w'->(w'.cell? ⟨a,po,none⟩=some (ab y.1.1)/\w'.cell? ⟨a,po+1,none⟩=some (ab y.1.2.1)/\w'.cell? ⟨a,po+2,none⟩=some (af y.1.2.2)/\w'.cell? ⟨a,po+3,none⟩=some (ae y.2.1.1 y.2.2.length y.2.1.2))/\(w'.cell? ⟨a,po+4,none⟩=some (ab x.1.1)/\w'.cell? ⟨a,po+5,none⟩=some (ab x.1.2.1)/\w'.cell? ⟨a,po+6,none⟩=some (af x.1.2.2)/\w'.cell? ⟨a,po+7,none⟩=some (ae x.2.1.1 x.2.2.length x.2.1.2))):=(λai Z=>MQ (y:=bD n y) (x:=bD n x) (show a<w.heap.size+1 by omega) Z (p _ m)))))
 go_wp2_with fail;have T:Hid (aj w t):=d.trans (m.mono d.size);have am:w1.heap.size<=w2.heap.size:=j.size;have z:=iT (M:=M) P ((r.2.1.below i.1).mono i.1.size) (r.2.2.1.mono λq (ag:w1.heap.size<=q)=>(show w.heap.size+1<q by omega)) r.2.2.2;have A:=iT (M:=M) P i.2.1 (i.2.2.1.mono λq (ag:w2.heap.size<=q)=>(show w.heap.size+1<q by omega)) i.2.2.2;refine av (v:=.tuple #[.agg #[ab 1,ab b.1.1,ab b.1.2.1,af b.1.2.2,ae b.2.1.1 b.2.2.length b.2.1.2,ab q.1.1,ab q.1.2.1,af q.1.2.2,ae q.2.1.1 q.2.2.length q.2.1.2,af ⟨#[]⟩,ab 0],.bool true]) (by simp[results,results182,go_sem,d0,d1,d2,d3,d4,d5,d6,d7,d8,d9,d10]) rfl ?_;have e:f9 (M+1) (1,(aT (M+1) (n+1) b,aT (M+1) (n+1) q),(.empty,0))=[ab 1,ab b.1.1,ab b.1.2.1,af b.1.2.2,ae b.2.1.1 b.2.2.length b.2.1.2,ab q.1.1,ab q.1.2.1,af q.1.2.2,ae q.2.1.1 q.2.2.length q.2.1.2,af ⟨#[]⟩,ab 0]:=by
  show ab 1::(iq (M+1) (aT (M+1) (n+1) b)++iq (M+1) (aT (M+1) (n+1) q)++ [af .empty,ab 0])=_;rw[gq,gq];rfl
 have R:=λ(w':World)(Y:bK (w.heap.size+1) t w')=>nB (g:=w.heap.size+1) (w2:=t) (w:=w) (1,(aT (M+1) (n+1) b,aT (M+1) (n+1) q),(.empty,0)) _ aa Y T (by omega) ⟨by simp[dx],z.1,A.1,aH _,by simp[dx]⟩ ⟨z.2.1,A.2.1⟩ ⟨rfl,z.2.2,A.2.2,rfl⟩;rw[e]at R;exact R _ (ki _ _ _ _ _ _ _ _ _ _ _ _ _)
theorem MR{n g a po:Nat}{w w':World}{y x t:Tm (n+1)}(d:a<g)(c:bK g w w')(k:(w.cell? ⟨a,po,none⟩=some (ab y.1.1)/\w.cell? ⟨a,po+1,none⟩=some (ab y.1.2.1)/\w.cell? ⟨a,po+2,none⟩=some (af y.1.2.2)/\w.cell? ⟨a,po+3,none⟩=some (ae y.2.1.1 y.2.2.length y.2.1.2))/\(w.cell? ⟨a,po+4,none⟩=some (ab x.1.1)/\w.cell? ⟨a,po+5,none⟩=some (ab x.1.2.1)/\w.cell? ⟨a,po+6,none⟩=some (af x.1.2.2)/\w.cell? ⟨a,po+7,none⟩=some (ae x.2.1.1 x.2.2.length x.2.1.2))/\(w.cell? ⟨a,po+8,none⟩=some (ab t.1.1)/\w.cell? ⟨a,po+9,none⟩=some (ab t.1.2.1)/\w.cell? ⟨a,po+10,none⟩=some (af t.1.2.2)/\w.cell? ⟨a,po+11,none⟩=some (ae t.2.1.1 t.2.2.length t.2.1.2))):(w'.cell? ⟨a,po,none⟩=some (ab y.1.1)/\w'.cell? ⟨a,po+1,none⟩=some (ab y.1.2.1)/\w'.cell? ⟨a,po+2,none⟩=some (af y.1.2.2)/\w'.cell? ⟨a,po+3,none⟩=some (ae y.2.1.1 y.2.2.length y.2.1.2))/\(w'.cell? ⟨a,po+4,none⟩=some (ab x.1.1)/\w'.cell? ⟨a,po+5,none⟩=some (ab x.1.2.1)/\w'.cell? ⟨a,po+6,none⟩=some (af x.1.2.2)/\w'.cell? ⟨a,po+7,none⟩=some (ae x.2.1.1 x.2.2.length x.2.1.2))/\(w'.cell? ⟨a,po+8,none⟩=some (ab t.1.1)/\w'.cell? ⟨a,po+9,none⟩=some (ab t.1.2.1)/\w'.cell? ⟨a,po+10,none⟩=some (af t.1.2.2)/\w'.cell? ⟨a,po+11,none⟩=some (ae t.2.1.1 t.2.2.length t.2.1.2)):=by
 have b:=λo=>fX c (show a≠g by omega) o;exact⟨⟨(b _).trans k.1.1,(b _).trans k.1.2.1,(b _).trans k.1.2.2.1,(b _).trans k.1.2.2.2⟩,⟨(b _).trans k.2.1.1,(b _).trans k.2.1.2.1,(b _).trans k.2.1.2.2.1,(b _).trans k.2.1.2.2.2⟩,(b _).trans k.2.2.1,(b _).trans k.2.2.2.1,(b _).trans k.2.2.2.2.1,(b _).trans k.2.2.2.2.2⟩
theorem wK(M n:Nat)(k u:Int)(s:ByteArray)(xa:Option Addr)(T xc:Nat)(j:ByteArray)(d po c:Nat)(w:World)(y x t:Tm (n+1))(o:Option (Ac (M+1)))(ai:(j.toList==[115,101,110,100])=false)(al:(j.toList==[115,112,97,119,110])=true)(_b3:(j.toList==[108,105,110,107])=false)(_b4:(j.toList==[115,116,111,112])=false)(h:d<w.heap.size)(G:w.cell? ⟨d,po,none⟩=some (ab y.1.1))(H:w.cell? ⟨d,po+1,none⟩=some (ab y.1.2.1))(I:w.cell? ⟨d,po+2,none⟩=some (af y.1.2.2))(J:w.cell? ⟨d,po+3,none⟩=some (ae y.2.1.1 y.2.2.length y.2.1.2))(C:w.cell? ⟨d,po+4,none⟩=some (ab x.1.1))(D:w.cell? ⟨d,po+5,none⟩=some (ab x.1.2.1))(E:w.cell? ⟨d,po+6,none⟩=some (af x.1.2.2))(F:w.cell? ⟨d,po+7,none⟩=some (ae x.2.1.1 x.2.2.length x.2.1.2))(q:w.cell? ⟨d,po+8,none⟩=some (ab t.1.1))(r:w.cell? ⟨d,po+9,none⟩=some (ab t.1.2.1))(z:w.cell? ⟨d,po+10,none⟩=some (af t.1.2.2))(A:w.cell? ⟨d,po+11,none⟩=some (ae t.2.1.1 t.2.2.length t.2.1.2))(L:Hid (∀w1,aj w w1->ak 104 #[.agg #[ab k,ab u,af s,ae xa T xc]] w1 λe w'=>e=.returned (.tuple #[af j,ae (some ⟨d,po,none⟩) 3 c])/\aj w1 w'))(K:Hid (∀w1,aj w w1->ak 196 #[.agg #[ab y.1.1,ab y.1.2.1,af y.1.2.2,ae y.2.1.1 y.2.2.length y.2.1.2],.agg #[ab x.1.1,ab x.1.2.1,af x.1.2.2,ae x.2.1.1 x.2.2.length x.2.1.2],.agg #[ab t.1.1,ab t.1.2.1,af t.1.2.2,ae t.2.1.1 t.2.2.length t.2.1.2]] w1 (nL M o w1))):ak 182 #[.agg #[ab k,ab u,af s,ae xa T xc]] w (nL M o w):=by
 go_enter func182,ntmps182;go_wp2_with fail;refine(L _ (by go_grown)).mono ?_;rintro e w1 ⟨rfl,O⟩;obtain⟨ag,S,Q,ar⟩:=eC O;have f:=ap Q;have W:=ap S;clear O ag S Q L;replace G:=(aq f _ _ h).trans G;replace H:=(aq f _ _ h).trans H;replace I:=(aq f _ _ h).trans I;replace J:=(aq f _ _ h).trans J;replace C:=(aq f _ _ h).trans C;replace D:=(aq f _ _ h).trans D;replace E:=(aq f _ _ h).trans E;replace F:=(aq f _ _ h).trans F;replace q:=(aq f _ _ h).trans q;replace r:=(aq f _ _ h).trans r;replace z:=(aq f _ _ h).trans z;replace A:=(aq f _ _ h).trans A;have ad:d<w1.heap.size:=by omega
 have p:Hid (∀w',aj w1 w'->(w'.cell? ⟨d,po,none⟩=some (ab y.1.1)/\w'.cell? ⟨d,po+1,none⟩=some (ab y.1.2.1)/\w'.cell? ⟨d,po+2,none⟩=some (af y.1.2.2)/\w'.cell? ⟨d,po+3,none⟩=some (ae y.2.1.1 y.2.2.length y.2.1.2))/\(w'.cell? ⟨d,po+4,none⟩=some (ab x.1.1)/\w'.cell? ⟨d,po+5,none⟩=some (ab x.1.2.1)/\w'.cell? ⟨d,po+6,none⟩=some (af x.1.2.2)/\w'.cell? ⟨d,po+7,none⟩=some (ae x.2.1.1 x.2.2.length x.2.1.2))/\(w'.cell? ⟨d,po+8,none⟩=some (ab t.1.1)/\w'.cell? ⟨d,po+9,none⟩=some (ab t.1.2.1)/\w'.cell? ⟨d,po+10,none⟩=some (af t.1.2.2)/\w'.cell? ⟨d,po+11,none⟩=some (ae t.2.1.1 t.2.2.length t.2.1.2))):=λw' Z=>by
  have g:=λo=>aq Z d o ad;exact⟨⟨(g _).trans G,(g _).trans H,(g _).trans I,(g _).trans J⟩,⟨(g _).trans C,(g _).trans D,(g _).trans E,(g _).trans F⟩,(g _).trans q,(g _).trans r,(g _).trans z,(g _).trans A⟩
 go_wp2_with fail
 go_region_held3 (λw'=>(w'.cell? ⟨d,po,none⟩=some (ab y.1.1)/\w'.cell? ⟨d,po+1,none⟩=some (ab y.1.2.1)/\w'.cell? ⟨d,po+2,none⟩=some (af y.1.2.2)/\w'.cell? ⟨d,po+3,none⟩=some (ae y.2.1.1 y.2.2.length y.2.1.2))/\(w'.cell? ⟨d,po+4,none⟩=some (ab x.1.1)/\w'.cell? ⟨d,po+5,none⟩=some (ab x.1.2.1)/\w'.cell? ⟨d,po+6,none⟩=some (af x.1.2.2)/\w'.cell? ⟨d,po+7,none⟩=some (ae x.2.1.1 x.2.2.length x.2.1.2))/\(w'.cell? ⟨d,po+8,none⟩=some (ab t.1.1)/\w'.cell? ⟨d,po+9,none⟩=some (ab t.1.2.1)/\w'.cell? ⟨d,po+10,none⟩=some (af t.1.2.2)/\w'.cell? ⟨d,po+11,none⟩=some (ae t.2.1.1 t.2.2.length t.2.1.2))) (first|with_reducible assumption|with_reducible exact p.out _ l.out|with_reducible exact V.out _ (ki _ _ _ _ _ _ _ _ _ _ _ _ _)|exact p.out _ (ao _ _).drew)
  ((go_at_call 196;refine(K _ f.drew).mono ?_;rintro e B ⟨a,b,rfl,i⟩;have N:Value.agg (f9 (M+1) a).toArray=.agg #[ab a.1,ab a.2.1.1.1.1,ab a.2.1.1.1.2.1,af a.2.1.1.1.2.2,ae a.2.1.1.2.1.1 a.2.1.1.2.2.length a.2.1.1.2.1.2,ab a.2.1.2.1.1,ab a.2.1.2.1.2.1,af a.2.1.2.1.2.2,ae a.2.1.2.2.1.1 a.2.1.2.2.2.length a.2.1.2.2.1.2,af a.2.2.1,ab a.2.2.2]:=rfl;rw[N];clear N;have l:=ap (cM i.1);clear K;have X:=ap ((l.block (w.heap.size+1) (by omega)).trans W);obtain⟨⟨d0,d1,d2,d3,d4,d5,d6,d7,d8,d9,d10⟩,f0,an⟩:=l9 X;have V:=ap (λY (aa:bK (w.heap.size+1) B Y)=>MR (y:=y) (x:=x) (t:=t) (show d<w.heap.size+1 by omega) aa (p _ l))))
 go_wp2_with fail;have U:Hid (aj w B):=f.trans (l.mono f.size);refine av (v:=.tuple #[.agg #[ab a.1,ab a.2.1.1.1.1,ab a.2.1.1.1.2.1,af a.2.1.1.1.2.2,ae a.2.1.1.2.1.1 a.2.1.1.2.2.length a.2.1.1.2.1.2,ab a.2.1.2.1.1,ab a.2.1.2.1.2.1,af a.2.1.2.1.2.2,ae a.2.1.2.2.1.1 a.2.1.2.2.2.length a.2.1.2.2.1.2,af a.2.2.1,ab a.2.2.2],.bool b]) (by simp[results,results182,go_sem,d0,d1,d2,d3,d4,d5,d6,d7,d8,d9,d10]) rfl ?_;have ah:∀w',bK (w.heap.size+1) B w'->nL M o w (.returned (.tuple #[.agg #[ab a.1,ab a.2.1.1.1.1,ab a.2.1.1.1.2.1,af a.2.1.1.1.2.2,ae a.2.1.1.2.1.1 a.2.1.1.2.2.length a.2.1.1.2.1.2,ab a.2.1.2.1.1,ab a.2.1.2.1.2.1,af a.2.1.2.1.2.2,ae a.2.1.2.2.1.1 a.2.1.2.2.2.length a.2.1.2.2.1.2,af a.2.2.1,ab a.2.2.2],.bool b])) w':=λw' R=>⟨a,b,rfl,R.below U (by omega),i.2.1,R.stays (fJ _) (P:=λm=>w1.heap.size<=m) (by omega) i.2.2.2.1 i.2.2.1,(fJ _).1 _ _ _ (λm (am:w1.heap.size<=m)=>(show w.heap.size<=m by omega)) i.2.2.2.1,i.2.2.2.2⟩;exact ah _ (ki _ _ _ _ _ _ _ _ _ _ _ _ _)
theorem im{n B:Nat}{w:World}{q:List (Tm (n+1))}{e po:Nat}(a:fH B w (n+1) q (some ⟨e,po,none⟩)){i:Nat}{y:Tm (n+1)}(d:q[i]?=some y):dC w e (po+i*4) (n+1) y/\In B w (n+1) y/\e<B:=by
 rcases a with a|⟨b,o,c,h,a⟩
 ·subst a;simp at d
 ·injection c with c;injection c with f g;subst f g;exact⟨(a i y d).1,(a i y d).2,h⟩
theorem r7{B:Nat}{w:World}{q:List (Tm 0)}{a:Option Addr}(b:fH B w 0 q a){i:Nat}{y:Tm 0}(c:q[i]?=some y):False:=by
 rcases b with b|⟨_,_,_,_,b⟩
 ·subst b;simp at c
 ·exact(b i y c).1
theorem rz{n B:Nat}{w:World}{q:List (Tm n)}{a:Option Addr}(c:fH B w n q a)(e:0<q.length):∃b o,a=some ⟨b,o,none⟩:=by
 rcases c with c|⟨b,o,d,_⟩
 ·subst c;simp at e
 ·exact⟨b,o,d⟩
theorem eA{n:Nat}{x:Tm (n+1)}(b:aD ⟨n+1,x⟩){y:Tm n}(a:y∈bN n x):aD ⟨n,y⟩:=by
 unfold bN at a;split at a
 ·split at a
  ·split at a
   ·exact aV n x y b (List.mem_of_mem_drop a)
   ·cases a
  ·cases a
 ·cases a
theorem rH(n:Nat)(x:Tm (n+1))(B:Nat)(w:World)(D:In B w (n+1) x)(J:B<=w.heap.size):∃a c,fH B w n (bN n x) a/\(bN n x).length<=c/\c<=9223372036854775807/\∀w1,aj w w1->ak 104 #[.agg #[ab x.1.1,ab x.1.2.1,af x.1.2.2,ae x.2.1.1 x.2.2.length x.2.1.2]] w1 λe w'=>e=.returned (.tuple #[af (fe n x),.slice a (bN n x).length c])/\aj w1 w':=by
 obtain⟨⟨k,h,g⟩,⟨a,c⟩,f⟩:=x;obtain⟨⟨_,_,_,s,y⟩,i⟩:=D;simp only at s y i ⊢;have C:c<=9223372036854775807:=by unfold maxLen at y;omega
 by_cases t:k=4
 ·subst t;rcases i with i|⟨b,o,rfl,A,i⟩
  ·subst i;exact⟨none,0,ah rfl,am _,aH _,λw1 _=>BH h g a c w1⟩
  ·cases f with
   | nil=>exact⟨none,0,ah rfl,am _,aH _,λw1 _=>BH h g _ c w1⟩
   | cons d f=>
    obtain⟨r,I⟩:=i 0 d rfl;cases n with
    | zero=>exact r.elim
    | succ n=>
    obtain⟨u,G,z,H⟩:=r;by_cases l:d.1.1=2
    ·have p:fe (n+1) ((4,h,g),(some ⟨b,o,none⟩,c),d::f)=d.1.2.2:=by simp[fe,bU,l,gj,bD]
     have q:bN (n+1) ((4,h,g),(some ⟨b,o,none⟩,c),d::f)=f:=by simp[bN,bU,l]
     rw[p,q];refine⟨if c=1 then some ⟨b,o,none⟩else some ⟨b,o+4,none⟩,c-1,?_,by simp at s;omega,by omega,λw1 m=>?_⟩
     ·by_cases r:c=1
      ·exact ah (bE (by simp at s;omega))
      ·rw[if_neg r];refine ai ⟨b,o+4,rfl,A,λv F E=>?_⟩;have:=i (v+1) F (by simpa using E);rw[show o+4+v*4=o+(v+1)*4 by omega];exact this
     ·have j:b<w.heap.size:=by omega
      have d:=G1 h g b o (d::f).length c (by simp) s C d.1.2.2 w1 (aR j m.size) ((aq m _ _ j).trans (by rw[l]at u;simpa using u)) ((aq m _ _ j).trans (by simpa using z));exact d
    ·have p:fe (n+1) ((4,h,g),(some ⟨b,o,none⟩,c),d::f)=⟨#[]⟩:=by simp[fe,bU,l];rfl
     have q:bN (n+1) ((4,h,g),(some ⟨b,o,none⟩,c),d::f)=[]:=by simp[bN,bU,l]
     rw[p,q];have j:b<w.heap.size:=by omega
     exact⟨none,0,ah rfl,am _,aH _,λw1 m=>DL h g b o (d::f).length c (by simp) d.1.1 (by simpa using l) w1 (aR j m.size) ((aq m _ _ j).trans (by simpa using u))⟩
 ·have p:fe n ((k,h,g),(a,c),f)=⟨#[]⟩:=by simp[fe,t];rfl
  have q:bN n ((k,h,g),(a,c),f)=[]:=by simp[bN,t]
  rw[p,q];exact⟨none,0,ah rfl,am _,aH _,λw1 _=>G2 k h g a f.length c w1 (by simpa using t)⟩
theorem mm{n:Nat}{y:Tm (n+1)}{B:Nat}{w:World}(f:In B w (n+1) y)(d:aD ⟨n+1,y⟩)(c:B<=w.heap.size):∀w1,aj w w1->ak 56 #[.agg #[ab y.1.1,ab y.1.2.1,af y.1.2.2,ae y.2.1.1 y.2.2.length y.2.1.2]] w1 λe w'=>∃a:Tm (n+1),e=.returned (.agg #[ab a.1.1,ab a.1.2.1,af a.1.2.2,ae a.2.1.1 a.2.2.length a.2.1.2])/\Hid (aj w1 w'/\In w'.heap.size w' (n+1) a/\ch (λq=>w1.heap.size<=q) (n+1) a/\ax (n+1) a (n+1) y=true):=
 λw1 b=>ij (n+1) y B w1 (f.below (b.mono c)) (az c b.size) d
theorem oJ{a:Bool}(b:¬a=true):a=false:=by cases a<;>simp_all
theorem Og{l k:Nat}(a:l=k):((l:Int)==(k:Int))=true:=by simp[a]
theorem vj{l k:Nat}(a:¬l=k):((l:Int)==(k:Int))=false:=by simp;omega
theorem BW(M n:Nat)(ag:n<=M+1)(x:Tm n)(B:Nat)(w:World)(P:In B w n x)(X:aD ⟨n,x⟩)(r:B<=w.heap.size):ak 182 #[dq n x] w (nL M (sF M n x) w):=by
 cases n with
 | zero=>exact P.elim
 | succ n=>
 obtain⟨z,c,o,ad,aa,m⟩:=rH n x B w P r;show ak 182 #[.agg #[ab x.1.1,ab x.1.2.1,af x.1.2.2,ae x.2.1.1 x.2.2.length x.2.1.2]] w (nL M (jO M n (fe n x) (bN n x)) w);have G:∀j∈bN n x,aD ⟨n,j⟩:=λj k=>eA X k;generalize fe n x=a at*;generalize bN n x=d at*;have p:s9 a mL=(a.toList==[115,101,110,100]):=ny a [115,101,110,100];have q:s9 a je=(a.toList==[115,112,97,119,110]):=ny a [115,112,97,119,110];have u:s9 a mK=(a.toList==[108,105,110,107]):=ny a [108,105,110,107];have y:s9 a lR=(a.toList==[115,116,111,112]):=ny a [115,116,111,112];have ne:∀(l L:List UInt8),(l==L)=false->(a.toList==l)=true->(a.toList==L)=false:=λl L A V=>by
  have Q:a.toList=l:=by simpa using V
  rw[Q];exact A
 have get:∀J,J<d.length->∃j,d[J]?=some j:=λJ W=>⟨d[J],aI W⟩;by_cases b:(a.toList==[115,101,110,100])=true
 ·have e:=ne _ [115,112,97,119,110] (by decide) b;have f:=ne _ [108,105,110,107] (by decide) b;have g:=ne _ [115,116,111,112] (by decide) b;by_cases h:d.length=2
  ·obtain⟨j,k⟩:=get 0 (by omega);obtain⟨s,v⟩:=get 1 (by omega);have i:jO M n a d=some (1,(aT (M+1) n j,aT (M+1) n s),(.empty,0)):=by
    unfold jO;rw[if_pos (by rw[p,b,h];rfl),k,v];rfl
   rw[i];rw[h]at m;obtain⟨I,po,rfl⟩:=rz o (by omega);cases n with
   | zero=>exact(r7 o k).elim
   | succ n=>
   obtain⟨⟨C,D,E,F⟩,H,N⟩:=im o k;obtain⟨⟨d0,d1,d2,d3⟩,K,_⟩:=im o v;exact zJ M n _ _ _ _ _ _ a I po c w j s (by omega) _ rfl b e f g (by omega) (by simpa using C) (by simpa using D) (by simpa using E) (by simpa using F) (by simpa using d0) (by simpa using d1) (by simpa using d2) (by simpa using d3) m (mm H (G j (aJ k)) r) (mm K (G s (aJ v)) r)
  ·have i:jO M n a d=none:=by simp[jO,p,q,u,y,e,f,g,h]
   exact jz M n _ _ _ _ _ _ a z d.length c w _ i b e f g (ai (ah ⟨rfl,rfl,rfl,rfl,vj h⟩)) m
 replace b:=oJ b;by_cases e:(a.toList==[115,112,97,119,110])=true
 ·have f:=ne _ [108,105,110,107] (by decide) e;have g:=ne _ [115,116,111,112] (by decide) e;by_cases h:d.length=3
  ·obtain⟨j,k⟩:=get 0 (by omega);obtain⟨s,v⟩:=get 1 (by omega);obtain⟨t,O⟩:=get 2 (by omega);have i:jO M n a d=zG M n j s t:=by
    unfold jO;rw[if_neg (by rw[p,b];simp),if_pos (by rw[q,e,h];rfl),k,v,O];rfl
   rw[i];rw[h]at m;obtain⟨I,po,rfl⟩:=rz o (by omega);cases n with
   | zero=>exact(r7 o k).elim
   | succ n=>
   obtain⟨⟨C,D,E,F⟩,H,N⟩:=im o k;obtain⟨⟨d0,d1,d2,d3⟩,K,_⟩:=im o v;obtain⟨⟨R,S,T,U⟩,Y,_⟩:=im o O;exact wK M n _ _ _ _ _ _ a I po c w j s t _ b e f g (by omega) (by simpa using C) (by simpa using D) (by simpa using E) (by simpa using F) (by simpa using d0) (by simpa using d1) (by simpa using d2) (by simpa using d3) (by simpa using R) (by simpa using S) (by simpa using T) (by simpa using U) m (λZ A=>wM M n (by omega) j s t B Z (H.below (A.mono r)) (K.below (A.mono r)) (Y.below (A.mono r)) (G j (aJ k)) (G s (aJ v)) (az r A.size))
  ·have i:jO M n a d=none:=by simp[jO,p,q,u,y,b,f,g,h]
   exact jz M n _ _ _ _ _ _ a z d.length c w _ i b e f g (ai (ai (ah ⟨rfl,rfl,rfl,rfl,vj h⟩))) m
 replace e:=oJ e;by_cases f:(a.toList==[108,105,110,107])=true
 ·have g:=ne _ [115,116,111,112] (by decide) f;by_cases h:d.length=1
  ·obtain⟨j,k⟩:=get 0 (by omega);have i:jO M n a d=some (3,(aT (M+1) n j,zT M),(.empty,0)):=by
    unfold jO;rw[if_neg (by rw[p,b];simp),if_neg (by rw[q,e];simp),if_pos (by rw[u,f,h];rfl),k];rfl
   rw[i];rw[h]at m;obtain⟨I,po,rfl⟩:=rz o (by omega);cases n with
   | zero=>exact(r7 o k).elim
   | succ n=>
   obtain⟨⟨C,D,E,F⟩,H,N⟩:=im o k;exact zI M n _ _ _ _ _ _ a I po c w j (by omega) _ rfl b e f g (by omega) (by simpa using C) (by simpa using D) (by simpa using E) (by simpa using F) m (mm H (G j (aJ k)) r)
  ·have i:jO M n a d=none:=by simp[jO,p,q,u,y,b,e,g,h]
   exact jz M n _ _ _ _ _ _ a z d.length c w _ i b e f g (ai (ai (ai (ah ⟨rfl,rfl,rfl,rfl,vj h⟩)))) m
 replace f:=oJ f;by_cases g:(a.toList==[115,116,111,112])=true
 ·by_cases h:d.length=0
  ·have i:jO M n a d=some (4,(zT M,zT M),(.empty,0)):=by simp[jO,p,q,u,y,b,e,f,g,h]
   rw[i];exact zK M n _ _ _ _ _ _ a z d.length c w _ rfl b e f g (Og h) m
  ·have i:jO M n a d=none:=by simp[jO,p,q,u,y,b,e,f,h]
   exact jz M n _ _ _ _ _ _ a z d.length c w _ i b e f g (ai (ai (ai (ai ⟨rfl,rfl,rfl,rfl,vj h⟩)))) m
 replace g:=oJ g;have i:jO M n a d=none:=by simp[jO,p,q,u,y,b,e,f,g]
 exact jz M n _ _ _ _ _ _ a z d.length c w _ i b e f g (ah ⟨rfl,rfl,rfl,rfl⟩) m
end Go.Proofs.YtmmahddlcldmiaaGreat
