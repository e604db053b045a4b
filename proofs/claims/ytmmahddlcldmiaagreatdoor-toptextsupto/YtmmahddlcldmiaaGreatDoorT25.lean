/- What is proved here: code.readAct of right terms that lie in memory returns what rdA says, in new memory. No condition but that. -/
import Derived.Test.YtmmahddlcldmiaaGreatDoorT24
namespace Go.Proofs.YtmmahddlcldmiaaGreatDoor
open Go.RowKit Go.Proofs.Tryz
set_option maxHeartbeats 4000000
set_option maxRecDepth 100000
theorem km(l:List UInt8):(⟨l.toArray⟩:ByteArray).toList=l:=by rw[bE]
theorem nt(a:ByteArray)(l:List UInt8):s8 a ⟨l.toArray⟩=(a.toList==l):=by
 show (a.toList==(⟨l.toArray⟩:ByteArray).toList)=(a.toList==l);rw[show (⟨l.toArray⟩:ByteArray).toList=l from km l]
theorem ey{w w1:World}{a b:Obj}(c:Below ((w.alloc a).alloc b).heap.size ((w.alloc a).alloc b) w1):w1.heap[w.heap.size]?=some a/\w1.heap[w.heap.size+1]?=some b/\aj w w1/\w.heap.size+2<=w1.heap.size:=by
 have f:=c.size;have e:((w.alloc a).alloc b).heap.size=w.heap.size+2:=by simp
 have d:aj w ((w.alloc a).alloc b):=by go_grown
 exact⟨(c.block _ (by omega)).trans (kj w a b).1,(c.block _ (by omega)).trans (kj w a b).2,d.trans (c.mono d.size),by omega⟩
theorem jw(M _n:Nat)(k j:Int)(s:ByteArray)(xa:Option Addr)(l xc:Nat)(b:ByteArray)(a:Option Addr)(len c:Nat)(w:World)(o:Option (Ac (M+1)))(q:Hid (o=none)){t1 t2 t3 t4:Bool}(t:(b.toList==[115,101,110,100])=t1)(u:(b.toList==[115,112,97,119,110])=t2)(x:(b.toList==[108,105,110,107])=t3)(y:(b.toList==[115,116,111,112])=t4)(p:(t1=false/\t2=false/\t3=false/\t4=false)\/(t1=true/\t2=false/\t3=false/\t4=false/\((len:Int)==2)=false)\/(t1=false/\t2=true/\t3=false/\t4=false/\((len:Int)==3)=false)\/(t1=false/\t2=false/\t3=true/\t4=false/\((len:Int)==1)=false)\/(t1=false/\t2=false/\t3=false/\t4=true/\((len:Int)==0)=false))(f:Hid (∀w1,aj w w1->am 64 #[.agg #[ab k,ab j,af s,ae xa l xc]] w1 λe w'=>e=.returned (.tuple #[af b,ae a len c])/\aj w1 w')):am 118 #[.agg #[ab k,ab j,af s,ae xa l xc]] w (nH M o w):=by
 rcases p with⟨rfl,rfl,rfl,rfl⟩|⟨rfl,rfl,rfl,rfl,d⟩|⟨rfl,rfl,rfl,rfl,d⟩|⟨rfl,rfl,rfl,rfl,d⟩|⟨rfl,rfl,rfl,rfl,d⟩
 all_goals
  go_enter func118,ntmps118;go_wp2_with fail;refine(f _ (by go_grown)).mono ?_;rintro e w1 ⟨rfl,g⟩;obtain⟨r,i,h,A⟩:=ey g;have m:=aq h;have n:=aq i;clear g r i h f;obtain⟨⟨d0,d1,d2,d3,d4,d5,d6,d7,d8,d9,d10⟩,f0,z⟩:=lW n;go_wp2_with fail;exact av (v:=.tuple #[.agg #[ab 0,ab 0,ab 0,af .empty,ae none 0 0,ab 0,ab 0,af .empty,ae none 0 0,af .empty,ab 0],.bool false]) (by simp[results,results118,go_sem,d0,d1,d2,d3,d4,d5,d6,d7,d8,d9,d10];rfl) rfl (qs q ((ke _ _ _ _ _ _ _ _ _ _ _ _ _).below m (by omega)))
theorem zS(M _n:Nat)(k j:Int)(s:ByteArray)(xa:Option Addr)(l xc:Nat)(b:ByteArray)(a:Option Addr)(len c:Nat)(w:World)(o:Option (Ac (M+1)))(p:Hid (o=some (4,(zT M,zT M),(.empty,0))))(r:(b.toList==[115,101,110,100])=false)(t:(b.toList==[115,112,97,119,110])=false)(u:(b.toList==[108,105,110,107])=false)(x:(b.toList==[115,116,111,112])=true)(y:((len:Int)==0)=true)(d:Hid (∀w1,aj w w1->am 64 #[.agg #[ab k,ab j,af s,ae xa l xc]] w1 λe w'=>e=.returned (.tuple #[af b,ae a len c])/\aj w1 w')):am 118 #[.agg #[ab k,ab j,af s,ae xa l xc]] w (nH M o w):=by
 go_enter func118,ntmps118;go_wp2_with fail;refine(d _ (by go_grown)).mono ?_;rintro e w1 ⟨rfl,f⟩;obtain⟨q,i,h,A⟩:=ey f;have m:=aq h;have n:=aq i;clear f q i h d;obtain⟨⟨d0,d1,d2,d3,d4,d5,d6,d7,d8,d9,d10⟩,f0,z⟩:=lW n;go_wp2_with fail;refine av (v:=.tuple #[.agg #[ab 4,ab 0,ab 0,af ⟨#[]⟩,ae none 0 0,ab 0,ab 0,af ⟨#[]⟩,ae none 0 0,af ⟨#[]⟩,ab 0],.bool true]) (by simp[results,results118,go_sem,d0,d1,d2,d3,d4,d5,d6,d7,d8,d9,d10]) rfl ?_;exact nw (g:=w.heap.size+1) (w2:=w1) (w:=w) (4,(zT M,zT M),(.empty,0)) _ p (ke _ _ _ _ _ _ _ _ _ _ _ _ _) m (by omega) ⟨by simp[dt],lp _ _ _,lp _ _ _,aI _,by simp[dt]⟩ ⟨ah rfl,ah rfl⟩ ⟨rfl,lF (lp _ 0 w),lF (lp _ 0 w),rfl⟩
theorem zQ(M n:Nat)(k A:Int)(s:ByteArray)(xa:Option Addr)(B xc:Nat)(h:ByteArray)(d po c:Nat)(w:World)(y:Tm (n+1))(I:n+1<=M+1)(o:Option (Ac (M+1)))(J:Hid (o=some (3,(aS (M+1) (n+1) y,zT M),(.empty,0))))(L:(h.toList==[115,101,110,100])=false)(N:(h.toList==[115,112,97,119,110])=false)(O:(h.toList==[108,105,110,107])=true)(_b4:(h.toList==[115,116,111,112])=false)(i:d<w.heap.size)(C:w.cell? ⟨d,po,none⟩=some (ab y.1.1))(D:w.cell? ⟨d,po+1,none⟩=some (ab y.1.2.1))(E:w.cell? ⟨d,po+2,none⟩=some (af y.1.2.2))(F:w.cell? ⟨d,po+3,none⟩=some (ae y.2.1.1 y.2.2.length y.2.1.2))(m:Hid (∀w1,aj w w1->am 64 #[.agg #[ab k,ab A,af s,ae xa B xc]] w1 λe w'=>e=.returned (.tuple #[af h,ae (some ⟨d,po,none⟩) 1 c])/\aj w1 w'))(l:Hid (∀w1,aj w w1->am 24 #[.agg #[ab y.1.1,ab y.1.2.1,af y.1.2.2,ae y.2.1.1 y.2.2.length y.2.1.2]] w1 λe w'=>∃a:Tm (n+1),e=.returned (.agg #[ab a.1.1,ab a.1.2.1,af a.1.2.2,ae a.2.1.1 a.2.2.length a.2.1.2])/\Hid (aj w1 w'/\In w'.heap.size w' (n+1) a/\cd (λq=>w1.heap.size<=q) (n+1) a/\ay (n+1) a (n+1) y=true))):am 118 #[.agg #[ab k,ab A,af s,ae xa B xc]] w (nH M o w):=by
 go_enter func118,ntmps118;go_wp2_with fail;refine(m _ (by go_grown)).mono ?_;rintro e w1 ⟨rfl,t⟩;obtain⟨K,x,u,S⟩:=ey t;have b:=aq u;have p:=aq x;clear t K x u m;replace C:=(ar b _ _ i).trans C;replace D:=(ar b _ _ i).trans D;replace E:=(ar b _ _ i).trans E;replace F:=(ar b _ _ i).trans F;have P:d<w1.heap.size:=by omega
 go_wp2_with fail;refine(l _ b).mono ?_;rintro e w2 ⟨a,rfl,f⟩;have G:Hid (aj w w2):=b.trans (f.1.mono b.size);have r:=aq ((f.1.block (w.heap.size+1) (by omega)).trans p);obtain⟨⟨d0,d1,d2,d3,d4,d5,d6,d7,d8,d9,d10⟩,f0,R⟩:=lW r;have j:=iO (M:=M) I f.2.1 (f.2.2.1.mono λq (Q:w1.heap.size<=q)=>(show w.heap.size+1<q by omega)) f.2.2.2;clear l p r;go_wp2_with fail;refine av (v:=.tuple #[.agg #[ab 3,ab a.1.1,ab a.1.2.1,af a.1.2.2,ae a.2.1.1 a.2.2.length a.2.1.2,ab 0,ab 0,af ⟨#[]⟩,ae none 0 0,af ⟨#[]⟩,ab 0],.bool true]) (by simp[results,results118,go_sem,d0,d1,d2,d3,d4,d5,d6,d7,d8,d9,d10]) rfl ?_;have e:fZ (M+1) (3,(aS (M+1) (n+1) a,zT M),(.empty,0))=[ab 3,ab a.1.1,ab a.1.2.1,af a.1.2.2,ae a.2.1.1 a.2.2.length a.2.1.2,ab 0,ab 0,af ⟨#[]⟩,ae none 0 0,af ⟨#[]⟩,ab 0]:=by
  show ab 3::(il (M+1) (aS (M+1) (n+1) a)++il (M+1) (zT M)++ [af .empty,ab 0])=_;rw[gm];rfl
 have z:=λ(w':World)(H:bL (w.heap.size+1) w2 w')=>nw (g:=w.heap.size+1) (w2:=w2) (w:=w) (3,(aS (M+1) (n+1) a,zT M),(.empty,0)) _ J H G (by omega) ⟨by simp[dt],j.1,lp _ _ _,aI _,by simp[dt]⟩ ⟨j.2.1,ah rfl⟩ ⟨rfl,j.2.2,lF (lp _ 0 w),rfl⟩;rw[e]at z;exact z _ (ke _ _ _ _ _ _ _ _ _ _ _ _ _)
theorem Nf{g a po:Nat}{w w':World}{y x:Nd}(d:a<g)(c:bL g w w')(k:(w.cell? ⟨a,po,none⟩=some (ab y.1.1)/\w.cell? ⟨a,po+1,none⟩=some (ab y.1.2.1)/\w.cell? ⟨a,po+2,none⟩=some (af y.1.2.2)/\w.cell? ⟨a,po+3,none⟩=some (ae y.2.1 y.2.2.1 y.2.2.2))/\(w.cell? ⟨a,po+4,none⟩=some (ab x.1.1)/\w.cell? ⟨a,po+5,none⟩=some (ab x.1.2.1)/\w.cell? ⟨a,po+6,none⟩=some (af x.1.2.2)/\w.cell? ⟨a,po+7,none⟩=some (ae x.2.1 x.2.2.1 x.2.2.2))):(w'.cell? ⟨a,po,none⟩=some (ab y.1.1)/\w'.cell? ⟨a,po+1,none⟩=some (ab y.1.2.1)/\w'.cell? ⟨a,po+2,none⟩=some (af y.1.2.2)/\w'.cell? ⟨a,po+3,none⟩=some (ae y.2.1 y.2.2.1 y.2.2.2))/\(w'.cell? ⟨a,po+4,none⟩=some (ab x.1.1)/\w'.cell? ⟨a,po+5,none⟩=some (ab x.1.2.1)/\w'.cell? ⟨a,po+6,none⟩=some (af x.1.2.2)/\w'.cell? ⟨a,po+7,none⟩=some (ae x.2.1 x.2.2.1 x.2.2.2)):=by
 have b:=λo=>fW c (show a≠g by omega) o;exact⟨⟨(b _).trans k.1.1,(b _).trans k.1.2.1,(b _).trans k.1.2.2.1,(b _).trans k.1.2.2.2⟩,(b _).trans k.2.1,(b _).trans k.2.2.1,(b _).trans k.2.2.2.1,(b _).trans k.2.2.2.2⟩
theorem zR(M n:Nat)(k R:Int)(s:ByteArray)(xa:Option Addr)(S xc:Nat)(l:ByteArray)(a po c:Nat)(w:World)(y x:Tm (n+1))(O:n+1<=M+1)(o:Option (Ac (M+1)))(aa:Hid (o=some (1,(aS (M+1) (n+1) y,aS (M+1) (n+1) x),(.empty,0))))(ak:(l.toList==[115,101,110,100])=true)(_b2:(l.toList==[115,112,97,119,110])=false)(_b3:(l.toList==[108,105,110,107])=false)(_b4:(l.toList==[115,116,111,112])=false)(h:a<w.heap.size)(E:w.cell? ⟨a,po,none⟩=some (ab y.1.1))(F:w.cell? ⟨a,po+1,none⟩=some (ab y.1.2.1))(G:w.cell? ⟨a,po+2,none⟩=some (af y.1.2.2))(H:w.cell? ⟨a,po+3,none⟩=some (ae y.2.1.1 y.2.2.length y.2.1.2))(A:w.cell? ⟨a,po+4,none⟩=some (ab x.1.1))(B:w.cell? ⟨a,po+5,none⟩=some (ab x.1.2.1))(C:w.cell? ⟨a,po+6,none⟩=some (af x.1.2.2))(D:w.cell? ⟨a,po+7,none⟩=some (ae x.2.1.1 x.2.2.length x.2.1.2))(K:Hid (∀w1,aj w w1->am 64 #[.agg #[ab k,ab R,af s,ae xa S xc]] w1 λe w'=>e=.returned (.tuple #[af l,ae (some ⟨a,po,none⟩) 2 c])/\aj w1 w'))(I:Hid (∀w1,aj w w1->am 24 #[.agg #[ab y.1.1,ab y.1.2.1,af y.1.2.2,ae y.2.1.1 y.2.2.length y.2.1.2]] w1 λe w'=>∃b:Tm (n+1),e=.returned (.agg #[ab b.1.1,ab b.1.2.1,af b.1.2.2,ae b.2.1.1 b.2.2.length b.2.1.2])/\Hid (aj w1 w'/\In w'.heap.size w' (n+1) b/\cd (λq=>w1.heap.size<=q) (n+1) b/\ay (n+1) b (n+1) y=true)))(J:Hid (∀w1,aj w w1->am 24 #[.agg #[ab x.1.1,ab x.1.2.1,af x.1.2.2,ae x.2.1.1 x.2.2.length x.2.1.2]] w1 λe w'=>∃b:Tm (n+1),e=.returned (.agg #[ab b.1.1,ab b.1.2.1,af b.1.2.2,ae b.2.1.1 b.2.2.length b.2.1.2])/\Hid (aj w1 w'/\In w'.heap.size w' (n+1) b/\cd (λq=>w1.heap.size<=q) (n+1) b/\ay (n+1) b (n+1) x=true))):am 118 #[.agg #[ab k,ab R,af s,ae xa S xc]] w (nH M o w):=by
 go_enter func118,ntmps118;go_wp2_with fail;refine(K _ (by go_grown)).mono ?_;rintro e w1 ⟨rfl,L⟩;obtain⟨ah,P,N,ao⟩:=ey L;have d:=aq N;have V:=aq P;clear L ah P N K;replace E:=(ar d _ _ h).trans E;replace F:=(ar d _ _ h).trans F;replace G:=(ar d _ _ h).trans G;replace H:=(ar d _ _ h).trans H;replace A:=(ar d _ _ h).trans A;replace B:=(ar d _ _ h).trans B;replace C:=(ar d _ _ h).trans C;replace D:=(ar d _ _ h).trans D;have ad:a<w1.heap.size:=by omega
 have p:Hid (∀w',aj w1 w'->(w'.cell? ⟨a,po,none⟩=some (ab y.1.1)/\w'.cell? ⟨a,po+1,none⟩=some (ab y.1.2.1)/\w'.cell? ⟨a,po+2,none⟩=some (af y.1.2.2)/\w'.cell? ⟨a,po+3,none⟩=some (ae y.2.1.1 y.2.2.length y.2.1.2))/\(w'.cell? ⟨a,po+4,none⟩=some (ab x.1.1)/\w'.cell? ⟨a,po+5,none⟩=some (ab x.1.2.1)/\w'.cell? ⟨a,po+6,none⟩=some (af x.1.2.2)/\w'.cell? ⟨a,po+7,none⟩=some (ae x.2.1.1 x.2.2.length x.2.1.2))):=λw' X=>by
  have f:=λo=>ar X a o ad;exact⟨⟨(f _).trans E,(f _).trans F,(f _).trans G,(f _).trans H⟩,(f _).trans A,(f _).trans B,(f _).trans C,(f _).trans D⟩
 go_wp2_with fail
 go_region_held3 (λw'=>(w'.cell? ⟨a,po,none⟩=some (ab y.1.1)/\w'.cell? ⟨a,po+1,none⟩=some (ab y.1.2.1)/\w'.cell? ⟨a,po+2,none⟩=some (af y.1.2.2)/\w'.cell? ⟨a,po+3,none⟩=some (ae y.2.1.1 y.2.2.length y.2.1.2))/\(w'.cell? ⟨a,po+4,none⟩=some (ab x.1.1)/\w'.cell? ⟨a,po+5,none⟩=some (ab x.1.2.1)/\w'.cell? ⟨a,po+6,none⟩=some (af x.1.2.2)/\w'.cell? ⟨a,po+7,none⟩=some (ae x.2.1.1 x.2.2.length x.2.1.2))) (first|with_reducible assumption|with_reducible exact p.out _ m.out|with_reducible exact p.out _ j.out|with_reducible exact U.out _ (ke _ _ _ _ _ _ _ _ _ _ _ _ _)|exact p.out _ (ap _ _).drew)
  ((first
   | (go_at_call 24;refine(I _ d.drew).mono ?_;rintro e w2 ⟨b,rfl,r⟩;have j:=aq (cH r.1);clear I)
   | (go_at_call 24;refine(J _ (d.trans (j.mono d.size))).mono ?_;rintro e t ⟨q,rfl,i⟩;have m:=aq (j.trans (i.1.mono j.size));clear J;have W:=aq ((m.block (w.heap.size+1) (by omega)).trans V);obtain⟨⟨d0,d1,d2,d3,d4,d5,d6,d7,d8,d9,d10⟩,f0,an⟩:=lW W;have U:Hid (∀w',bL (w.heap.size+1) t w'->(w'.cell? ⟨a,po,none⟩=some (ab y.1.1)/\w'.cell? ⟨a,po+1,none⟩=some (ab y.1.2.1)/\w'.cell? ⟨a,po+2,none⟩=some (af y.1.2.2)/\w'.cell? ⟨a,po+3,none⟩=some (ae y.2.1.1 y.2.2.length y.2.1.2))/\(w'.cell? ⟨a,po+4,none⟩=some (ab x.1.1)/\w'.cell? ⟨a,po+5,none⟩=some (ab x.1.2.1)/\w'.cell? ⟨a,po+6,none⟩=some (af x.1.2.2)/\w'.cell? ⟨a,po+7,none⟩=some (ae x.2.1.1 x.2.2.length x.2.1.2))):=(λai Z=>Nf (y:=bw n y) (x:=bw n x) (show a<w.heap.size+1 by omega) Z (p _ m)))))
 go_wp2_with fail;have T:Hid (aj w t):=d.trans (m.mono d.size);have al:w1.heap.size<=w2.heap.size:=j.size;have u:=iO (M:=M) O ((r.2.1.below i.1).mono i.1.size) (r.2.2.1.mono λq (ag:w1.heap.size<=q)=>(show w.heap.size+1<q by omega)) r.2.2.2;have z:=iO (M:=M) O i.2.1 (i.2.2.1.mono λq (ag:w2.heap.size<=q)=>(show w.heap.size+1<q by omega)) i.2.2.2;refine av (v:=.tuple #[.agg #[ab 1,ab b.1.1,ab b.1.2.1,af b.1.2.2,ae b.2.1.1 b.2.2.length b.2.1.2,ab q.1.1,ab q.1.2.1,af q.1.2.2,ae q.2.1.1 q.2.2.length q.2.1.2,af ⟨#[]⟩,ab 0],.bool true]) (by simp[results,results118,go_sem,d0,d1,d2,d3,d4,d5,d6,d7,d8,d9,d10]) rfl ?_;have e:fZ (M+1) (1,(aS (M+1) (n+1) b,aS (M+1) (n+1) q),(.empty,0))=[ab 1,ab b.1.1,ab b.1.2.1,af b.1.2.2,ae b.2.1.1 b.2.2.length b.2.1.2,ab q.1.1,ab q.1.2.1,af q.1.2.2,ae q.2.1.1 q.2.2.length q.2.1.2,af ⟨#[]⟩,ab 0]:=by
  show ab 1::(il (M+1) (aS (M+1) (n+1) b)++il (M+1) (aS (M+1) (n+1) q)++ [af .empty,ab 0])=_;rw[gm,gm];rfl
 have Q:=λ(w':World)(Y:bL (w.heap.size+1) t w')=>nw (g:=w.heap.size+1) (w2:=t) (w:=w) (1,(aS (M+1) (n+1) b,aS (M+1) (n+1) q),(.empty,0)) _ aa Y T (by omega) ⟨by simp[dt],u.1,z.1,aI _,by simp[dt]⟩ ⟨u.2.1,z.2.1⟩ ⟨rfl,u.2.2,z.2.2,rfl⟩;rw[e]at Q;exact Q _ (ke _ _ _ _ _ _ _ _ _ _ _ _ _)
theorem Ng{n g a po:Nat}{w w':World}{y x t:Tm (n+1)}(d:a<g)(c:bL g w w')(k:(w.cell? ⟨a,po,none⟩=some (ab y.1.1)/\w.cell? ⟨a,po+1,none⟩=some (ab y.1.2.1)/\w.cell? ⟨a,po+2,none⟩=some (af y.1.2.2)/\w.cell? ⟨a,po+3,none⟩=some (ae y.2.1.1 y.2.2.length y.2.1.2))/\(w.cell? ⟨a,po+4,none⟩=some (ab x.1.1)/\w.cell? ⟨a,po+5,none⟩=some (ab x.1.2.1)/\w.cell? ⟨a,po+6,none⟩=some (af x.1.2.2)/\w.cell? ⟨a,po+7,none⟩=some (ae x.2.1.1 x.2.2.length x.2.1.2))/\(w.cell? ⟨a,po+8,none⟩=some (ab t.1.1)/\w.cell? ⟨a,po+9,none⟩=some (ab t.1.2.1)/\w.cell? ⟨a,po+10,none⟩=some (af t.1.2.2)/\w.cell? ⟨a,po+11,none⟩=some (ae t.2.1.1 t.2.2.length t.2.1.2))):(w'.cell? ⟨a,po,none⟩=some (ab y.1.1)/\w'.cell? ⟨a,po+1,none⟩=some (ab y.1.2.1)/\w'.cell? ⟨a,po+2,none⟩=some (af y.1.2.2)/\w'.cell? ⟨a,po+3,none⟩=some (ae y.2.1.1 y.2.2.length y.2.1.2))/\(w'.cell? ⟨a,po+4,none⟩=some (ab x.1.1)/\w'.cell? ⟨a,po+5,none⟩=some (ab x.1.2.1)/\w'.cell? ⟨a,po+6,none⟩=some (af x.1.2.2)/\w'.cell? ⟨a,po+7,none⟩=some (ae x.2.1.1 x.2.2.length x.2.1.2))/\(w'.cell? ⟨a,po+8,none⟩=some (ab t.1.1)/\w'.cell? ⟨a,po+9,none⟩=some (ab t.1.2.1)/\w'.cell? ⟨a,po+10,none⟩=some (af t.1.2.2)/\w'.cell? ⟨a,po+11,none⟩=some (ae t.2.1.1 t.2.2.length t.2.1.2)):=by
 have b:=λo=>fW c (show a≠g by omega) o;exact⟨⟨(b _).trans k.1.1,(b _).trans k.1.2.1,(b _).trans k.1.2.2.1,(b _).trans k.1.2.2.2⟩,⟨(b _).trans k.2.1.1,(b _).trans k.2.1.2.1,(b _).trans k.2.1.2.2.1,(b _).trans k.2.1.2.2.2⟩,(b _).trans k.2.2.1,(b _).trans k.2.2.2.1,(b _).trans k.2.2.2.2.1,(b _).trans k.2.2.2.2.2⟩
theorem wM(M n:Nat)(k S:Int)(s:ByteArray)(xa:Option Addr)(T xc:Nat)(j:ByteArray)(d po c:Nat)(w:World)(y x t:Tm (n+1))(o:Option (Ac (M+1)))(ai:(j.toList==[115,101,110,100])=false)(ak:(j.toList==[115,112,97,119,110])=true)(_b3:(j.toList==[108,105,110,107])=false)(_b4:(j.toList==[115,116,111,112])=false)(h:d<w.heap.size)(F:w.cell? ⟨d,po,none⟩=some (ab y.1.1))(G:w.cell? ⟨d,po+1,none⟩=some (ab y.1.2.1))(H:w.cell? ⟨d,po+2,none⟩=some (af y.1.2.2))(I:w.cell? ⟨d,po+3,none⟩=some (ae y.2.1.1 y.2.2.length y.2.1.2))(B:w.cell? ⟨d,po+4,none⟩=some (ab x.1.1))(C:w.cell? ⟨d,po+5,none⟩=some (ab x.1.2.1))(D:w.cell? ⟨d,po+6,none⟩=some (af x.1.2.2))(E:w.cell? ⟨d,po+7,none⟩=some (ae x.2.1.1 x.2.2.length x.2.1.2))(q:w.cell? ⟨d,po+8,none⟩=some (ab t.1.1))(r:w.cell? ⟨d,po+9,none⟩=some (ab t.1.2.1))(u:w.cell? ⟨d,po+10,none⟩=some (af t.1.2.2))(z:w.cell? ⟨d,po+11,none⟩=some (ae t.2.1.1 t.2.2.length t.2.1.2))(K:Hid (∀w1,aj w w1->am 64 #[.agg #[ab k,ab S,af s,ae xa T xc]] w1 λe w'=>e=.returned (.tuple #[af j,ae (some ⟨d,po,none⟩) 3 c])/\aj w1 w'))(J:Hid (∀w1,aj w w1->am 149 #[.agg #[ab y.1.1,ab y.1.2.1,af y.1.2.2,ae y.2.1.1 y.2.2.length y.2.1.2],.agg #[ab x.1.1,ab x.1.2.1,af x.1.2.2,ae x.2.1.1 x.2.2.length x.2.1.2],.agg #[ab t.1.1,ab t.1.2.1,af t.1.2.2,ae t.2.1.1 t.2.2.length t.2.1.2]] w1 (nH M o w1))):am 118 #[.agg #[ab k,ab S,af s,ae xa T xc]] w (nH M o w):=by
 go_enter func118,ntmps118;go_wp2_with fail;refine(K _ (by go_grown)).mono ?_;rintro e w1 ⟨rfl,N⟩;obtain⟨ag,R,O,ao⟩:=ey N;have f:=aq O;have W:=aq R;clear N ag R O K;replace F:=(ar f _ _ h).trans F;replace G:=(ar f _ _ h).trans G;replace H:=(ar f _ _ h).trans H;replace I:=(ar f _ _ h).trans I;replace B:=(ar f _ _ h).trans B;replace C:=(ar f _ _ h).trans C;replace D:=(ar f _ _ h).trans D;replace E:=(ar f _ _ h).trans E;replace q:=(ar f _ _ h).trans q;replace r:=(ar f _ _ h).trans r;replace u:=(ar f _ _ h).trans u;replace z:=(ar f _ _ h).trans z;have ad:d<w1.heap.size:=by omega
 have p:Hid (∀w',aj w1 w'->(w'.cell? ⟨d,po,none⟩=some (ab y.1.1)/\w'.cell? ⟨d,po+1,none⟩=some (ab y.1.2.1)/\w'.cell? ⟨d,po+2,none⟩=some (af y.1.2.2)/\w'.cell? ⟨d,po+3,none⟩=some (ae y.2.1.1 y.2.2.length y.2.1.2))/\(w'.cell? ⟨d,po+4,none⟩=some (ab x.1.1)/\w'.cell? ⟨d,po+5,none⟩=some (ab x.1.2.1)/\w'.cell? ⟨d,po+6,none⟩=some (af x.1.2.2)/\w'.cell? ⟨d,po+7,none⟩=some (ae x.2.1.1 x.2.2.length x.2.1.2))/\(w'.cell? ⟨d,po+8,none⟩=some (ab t.1.1)/\w'.cell? ⟨d,po+9,none⟩=some (ab t.1.2.1)/\w'.cell? ⟨d,po+10,none⟩=some (af t.1.2.2)/\w'.cell? ⟨d,po+11,none⟩=some (ae t.2.1.1 t.2.2.length t.2.1.2))):=λw' Z=>by
  have g:=λo=>ar Z d o ad;exact⟨⟨(g _).trans F,(g _).trans G,(g _).trans H,(g _).trans I⟩,⟨(g _).trans B,(g _).trans C,(g _).trans D,(g _).trans E⟩,(g _).trans q,(g _).trans r,(g _).trans u,(g _).trans z⟩
 go_wp2_with fail
 go_region_held3 (λw'=>(w'.cell? ⟨d,po,none⟩=some (ab y.1.1)/\w'.cell? ⟨d,po+1,none⟩=some (ab y.1.2.1)/\w'.cell? ⟨d,po+2,none⟩=some (af y.1.2.2)/\w'.cell? ⟨d,po+3,none⟩=some (ae y.2.1.1 y.2.2.length y.2.1.2))/\(w'.cell? ⟨d,po+4,none⟩=some (ab x.1.1)/\w'.cell? ⟨d,po+5,none⟩=some (ab x.1.2.1)/\w'.cell? ⟨d,po+6,none⟩=some (af x.1.2.2)/\w'.cell? ⟨d,po+7,none⟩=some (ae x.2.1.1 x.2.2.length x.2.1.2))/\(w'.cell? ⟨d,po+8,none⟩=some (ab t.1.1)/\w'.cell? ⟨d,po+9,none⟩=some (ab t.1.2.1)/\w'.cell? ⟨d,po+10,none⟩=some (af t.1.2.2)/\w'.cell? ⟨d,po+11,none⟩=some (ae t.2.1.1 t.2.2.length t.2.1.2))) (first|with_reducible assumption|with_reducible exact p.out _ l.out|with_reducible exact V.out _ (ke _ _ _ _ _ _ _ _ _ _ _ _ _)|exact p.out _ (ap _ _).drew)
  ((go_at_call 149;refine(J _ f.drew).mono ?_;rintro e A ⟨a,b,rfl,i⟩;have L:Value.agg (fZ (M+1) a).toArray=.agg #[ab a.1,ab a.2.1.1.1.1,ab a.2.1.1.1.2.1,af a.2.1.1.1.2.2,ae a.2.1.1.2.1.1 a.2.1.1.2.2.length a.2.1.1.2.1.2,ab a.2.1.2.1.1,ab a.2.1.2.1.2.1,af a.2.1.2.1.2.2,ae a.2.1.2.2.1.1 a.2.1.2.2.2.length a.2.1.2.2.1.2,af a.2.2.1,ab a.2.2.2]:=rfl;rw[L];clear L;have l:=aq (cH i.1);clear J;have X:=aq ((l.block (w.heap.size+1) (by omega)).trans W);obtain⟨⟨d0,d1,d2,d3,d4,d5,d6,d7,d8,d9,d10⟩,f0,an⟩:=lW X;have V:=aq (λY (aa:bL (w.heap.size+1) A Y)=>Ng (y:=y) (x:=x) (t:=t) (show d<w.heap.size+1 by omega) aa (p _ l))))
 go_wp2_with fail;have U:Hid (aj w A):=f.trans (l.mono f.size);refine av (v:=.tuple #[.agg #[ab a.1,ab a.2.1.1.1.1,ab a.2.1.1.1.2.1,af a.2.1.1.1.2.2,ae a.2.1.1.2.1.1 a.2.1.1.2.2.length a.2.1.1.2.1.2,ab a.2.1.2.1.1,ab a.2.1.2.1.2.1,af a.2.1.2.1.2.2,ae a.2.1.2.2.1.1 a.2.1.2.2.2.length a.2.1.2.2.1.2,af a.2.2.1,ab a.2.2.2],.bool b]) (by simp[results,results118,go_sem,d0,d1,d2,d3,d4,d5,d6,d7,d8,d9,d10]) rfl ?_;have ah:∀w',bL (w.heap.size+1) A w'->nH M o w (.returned (.tuple #[.agg #[ab a.1,ab a.2.1.1.1.1,ab a.2.1.1.1.2.1,af a.2.1.1.1.2.2,ae a.2.1.1.2.1.1 a.2.1.1.2.2.length a.2.1.1.2.1.2,ab a.2.1.2.1.1,ab a.2.1.2.1.2.1,af a.2.1.2.1.2.2,ae a.2.1.2.2.1.1 a.2.1.2.2.2.length a.2.1.2.2.1.2,af a.2.2.1,ab a.2.2.2],.bool b])) w':=λw' Q=>⟨a,b,rfl,Q.below U (by omega),i.2.1,Q.stays (fD _) (P:=λm=>w1.heap.size<=m) (by omega) i.2.2.2.1 i.2.2.1,(fD _).1 _ _ _ (λm (al:w1.heap.size<=m)=>(show w.heap.size<=m by omega)) i.2.2.2.1,i.2.2.2.2⟩;exact ah _ (ke _ _ _ _ _ _ _ _ _ _ _ _ _)
theorem ii{n B:Nat}{w:World}{q:List (Tm (n+1))}{e po:Nat}(a:fC B w (n+1) q (some ⟨e,po,none⟩)){i:Nat}{y:Tm (n+1)}(d:q[i]?=some y):dB w e (po+i*4) (n+1) y/\In B w (n+1) y/\e<B:=by
 rcases a with a|⟨b,o,c,h,a⟩
 ·subst a;simp at d
 ·injection c with c;injection c with f g;subst f g;exact⟨(a i y d).1,(a i y d).2,h⟩
theorem rX{B:Nat}{w:World}{q:List (Tm 0)}{a:Option Addr}(b:fC B w 0 q a){i:Nat}{y:Tm 0}(c:q[i]?=some y):False:=by
 rcases b with b|⟨_,_,_,_,b⟩
 ·subst b;simp at c
 ·exact(b i y c).1
theorem rn{n B:Nat}{w:World}{q:List (Tm n)}{a:Option Addr}(c:fC B w n q a)(e:0<q.length):∃b o,a=some ⟨b,o,none⟩:=by
 rcases c with c|⟨b,o,d,_⟩
 ·subst c;simp at e
 ·exact⟨b,o,d⟩
theorem eu{n:Nat}{x:Tm (n+1)}(b:aD ⟨n+1,x⟩){y:Tm n}(a:y∈bQ n x):aD ⟨n,y⟩:=by
 unfold bQ at a;split at a
 ·split at a
  ·split at a
   ·exact aU n x y b (List.mem_of_mem_drop a)
   ·cases a
  ·cases a
 ·cases a
theorem rD(n:Nat)(x:Tm (n+1))(B:Nat)(w:World)(D:In B w (n+1) x)(J:B<=w.heap.size):∃a c,fC B w n (bQ n x) a/\(bQ n x).length<=c/\c<=9223372036854775807/\∀w1,aj w w1->am 64 #[.agg #[ab x.1.1,ab x.1.2.1,af x.1.2.2,ae x.2.1.1 x.2.2.length x.2.1.2]] w1 λe w'=>e=.returned (.tuple #[af (e9 n x),.slice a (bQ n x).length c])/\aj w1 w':=by
 obtain⟨⟨k,h,g⟩,⟨a,c⟩,f⟩:=x;obtain⟨⟨_,_,_,s,y⟩,i⟩:=D;simp only at s y i ⊢;have C:c<=9223372036854775807:=by unfold maxLen at y;omega
 by_cases t:k=4
 ·subst t;rcases i with i|⟨b,o,rfl,A,i⟩
  ·subst i;exact⟨none,0,ah rfl,ak _,aI _,λw1 _=>BR h g a c w1⟩
  ·cases f with
   | nil=>exact⟨none,0,ah rfl,ak _,aI _,λw1 _=>BR h g _ c w1⟩
   | cons d f=>
    obtain⟨r,I⟩:=i 0 d rfl;cases n with
    | zero=>exact r.elim
    | succ n=>
    obtain⟨u,G,z,H⟩:=r;by_cases l:d.1.1=2
    ·have p:e9 (n+1) ((4,h,g),(some ⟨b,o,none⟩,c),d::f)=d.1.2.2:=by simp[e9,bU,l,gg,bw]
     have q:bQ (n+1) ((4,h,g),(some ⟨b,o,none⟩,c),d::f)=f:=by simp[bQ,bU,l]
     rw[p,q];refine⟨if c=1 then some ⟨b,o,none⟩else some ⟨b,o+4,none⟩,c-1,?_,by simp at s;omega,by omega,λw1 m=>?_⟩
     ·by_cases r:c=1
      ·exact ah (bF (by simp at s;omega))
      ·rw[if_neg r];refine ai ⟨b,o+4,rfl,A,λv F E=>?_⟩;have:=i (v+1) F (by simpa using E);rw[show o+4+v*4=o+(v+1)*4 by omega];exact this
     ·have j:b<w.heap.size:=by omega
      have d:=Hc h g b o (d::f).length c (by simp) s C d.1.2.2 w1 (aR j m.size) ((ar m _ _ j).trans (by rw[l]at u;simpa using u)) ((ar m _ _ j).trans (by simpa using z));exact d
    ·have p:e9 (n+1) ((4,h,g),(some ⟨b,o,none⟩,c),d::f)=⟨#[]⟩:=by simp[e9,bU,l];rfl
     have q:bQ (n+1) ((4,h,g),(some ⟨b,o,none⟩,c),d::f)=[]:=by simp[bQ,bU,l]
     rw[p,q];have j:b<w.heap.size:=by omega
     exact⟨none,0,ah rfl,ak _,aI _,λw1 m=>DP h g b o (d::f).length c (by simp) d.1.1 (by simpa using l) w1 (aR j m.size) ((ar m _ _ j).trans (by simpa using u))⟩
 ·have p:e9 n ((k,h,g),(a,c),f)=⟨#[]⟩:=by simp[e9,t];rfl
  have q:bQ n ((k,h,g),(a,c),f)=[]:=by simp[bQ,t]
  rw[p,q];exact⟨none,0,ah rfl,ak _,aI _,λw1 _=>Hd k h g a f.length c w1 (by simpa using t)⟩
theorem mg{n:Nat}{y:Tm (n+1)}{B:Nat}{w:World}(f:In B w (n+1) y)(d:aD ⟨n+1,y⟩)(c:B<=w.heap.size):∀w1,aj w w1->am 24 #[.agg #[ab y.1.1,ab y.1.2.1,af y.1.2.2,ae y.2.1.1 y.2.2.length y.2.1.2]] w1 λe w'=>∃a:Tm (n+1),e=.returned (.agg #[ab a.1.1,ab a.1.2.1,af a.1.2.2,ae a.2.1.1 a.2.2.length a.2.1.2])/\Hid (aj w1 w'/\In w'.heap.size w' (n+1) a/\cd (λq=>w1.heap.size<=q) (n+1) a/\ay (n+1) a (n+1) y=true):=
 λw1 b=>ie (n+1) y B w1 (f.below (b.mono c)) (az c b.size) d
theorem oK{a:Bool}(b:¬a=true):a=false:=by cases a<;>simp_all
theorem OI{l k:Nat}(a:l=k):((l:Int)==(k:Int))=true:=by simp[a]
theorem vu{l k:Nat}(a:¬l=k):((l:Int)==(k:Int))=false:=by simp;omega
theorem B8(M n:Nat)(ag:n<=M+1)(x:Tm n)(B:Nat)(w:World)(P:In B w n x)(X:aD ⟨n,x⟩)(r:B<=w.heap.size):am 118 #[df n x] w (nH M (sG M n x) w):=by
 cases n with
 | zero=>exact P.elim
 | succ n=>
 obtain⟨z,c,o,ad,aa,m⟩:=rD n x B w P r;show am 118 #[.agg #[ab x.1.1,ab x.1.2.1,af x.1.2.2,ae x.2.1.1 x.2.2.length x.2.1.2]] w (nH M (jM M n (e9 n x) (bQ n x)) w);have G:∀j∈bQ n x,aD ⟨n,j⟩:=λj k=>eu X k;generalize e9 n x=a at*;generalize bQ n x=d at*;have p:s8 a mJ=(a.toList==[115,101,110,100]):=nt a [115,101,110,100];have q:s8 a iX=(a.toList==[115,112,97,119,110]):=nt a [115,112,97,119,110];have u:s8 a mI=(a.toList==[108,105,110,107]):=nt a [108,105,110,107];have y:s8 a lL=(a.toList==[115,116,111,112]):=nt a [115,116,111,112];have ne:∀(l L:List UInt8),(l==L)=false->(a.toList==l)=true->(a.toList==L)=false:=λl L A V=>by
  have Q:a.toList=l:=by simpa using V
  rw[Q];exact A
 have get:∀J,J<d.length->∃j,d[J]?=some j:=λJ W=>⟨d[J],aG W⟩;by_cases b:(a.toList==[115,101,110,100])=true
 ·have e:=ne _ [115,112,97,119,110] (by decide) b;have f:=ne _ [108,105,110,107] (by decide) b;have g:=ne _ [115,116,111,112] (by decide) b;by_cases h:d.length=2
  ·obtain⟨j,k⟩:=get 0 (by omega);obtain⟨s,v⟩:=get 1 (by omega);have i:jM M n a d=some (1,(aS (M+1) n j,aS (M+1) n s),(.empty,0)):=by
    unfold jM;rw[if_pos (by rw[p,b,h];rfl),k,v];rfl
   rw[i];rw[h]at m;obtain⟨I,po,rfl⟩:=rn o (by omega);cases n with
   | zero=>exact(rX o k).elim
   | succ n=>
   obtain⟨⟨C,D,E,F⟩,H,N⟩:=ii o k;obtain⟨⟨d0,d1,d2,d3⟩,K,_⟩:=ii o v;exact zR M n _ _ _ _ _ _ a I po c w j s (by omega) _ rfl b e f g (by omega) (by simpa using C) (by simpa using D) (by simpa using E) (by simpa using F) (by simpa using d0) (by simpa using d1) (by simpa using d2) (by simpa using d3) m (mg H (G j (aH k)) r) (mg K (G s (aH v)) r)
  ·have i:jM M n a d=none:=by simp[jM,p,q,u,y,e,f,g,h]
   exact jw M n _ _ _ _ _ _ a z d.length c w _ i b e f g (ai (ah ⟨rfl,rfl,rfl,rfl,vu h⟩)) m
 replace b:=oK b;by_cases e:(a.toList==[115,112,97,119,110])=true
 ·have f:=ne _ [108,105,110,107] (by decide) e;have g:=ne _ [115,116,111,112] (by decide) e;by_cases h:d.length=3
  ·obtain⟨j,k⟩:=get 0 (by omega);obtain⟨s,v⟩:=get 1 (by omega);obtain⟨t,O⟩:=get 2 (by omega);have i:jM M n a d=zO M n j s t:=by
    unfold jM;rw[if_neg (by rw[p,b];simp),if_pos (by rw[q,e,h];rfl),k,v,O];rfl
   rw[i];rw[h]at m;obtain⟨I,po,rfl⟩:=rn o (by omega);cases n with
   | zero=>exact(rX o k).elim
   | succ n=>
   obtain⟨⟨C,D,E,F⟩,H,N⟩:=ii o k;obtain⟨⟨d0,d1,d2,d3⟩,K,_⟩:=ii o v;obtain⟨⟨R,S,T,U⟩,Y,_⟩:=ii o O;exact wM M n _ _ _ _ _ _ a I po c w j s t _ b e f g (by omega) (by simpa using C) (by simpa using D) (by simpa using E) (by simpa using F) (by simpa using d0) (by simpa using d1) (by simpa using d2) (by simpa using d3) (by simpa using R) (by simpa using S) (by simpa using T) (by simpa using U) m (λZ A=>wO M n (by omega) j s t B Z (H.below (A.mono r)) (K.below (A.mono r)) (Y.below (A.mono r)) (G j (aH k)) (G s (aH v)) (az r A.size))
  ·have i:jM M n a d=none:=by simp[jM,p,q,u,y,b,f,g,h]
   exact jw M n _ _ _ _ _ _ a z d.length c w _ i b e f g (ai (ai (ah ⟨rfl,rfl,rfl,rfl,vu h⟩))) m
 replace e:=oK e;by_cases f:(a.toList==[108,105,110,107])=true
 ·have g:=ne _ [115,116,111,112] (by decide) f;by_cases h:d.length=1
  ·obtain⟨j,k⟩:=get 0 (by omega);have i:jM M n a d=some (3,(aS (M+1) n j,zT M),(.empty,0)):=by
    unfold jM;rw[if_neg (by rw[p,b];simp),if_neg (by rw[q,e];simp),if_pos (by rw[u,f,h];rfl),k];rfl
   rw[i];rw[h]at m;obtain⟨I,po,rfl⟩:=rn o (by omega);cases n with
   | zero=>exact(rX o k).elim
   | succ n=>
   obtain⟨⟨C,D,E,F⟩,H,N⟩:=ii o k;exact zQ M n _ _ _ _ _ _ a I po c w j (by omega) _ rfl b e f g (by omega) (by simpa using C) (by simpa using D) (by simpa using E) (by simpa using F) m (mg H (G j (aH k)) r)
  ·have i:jM M n a d=none:=by simp[jM,p,q,u,y,b,e,g,h]
   exact jw M n _ _ _ _ _ _ a z d.length c w _ i b e f g (ai (ai (ai (ah ⟨rfl,rfl,rfl,rfl,vu h⟩)))) m
 replace f:=oK f;by_cases g:(a.toList==[115,116,111,112])=true
 ·by_cases h:d.length=0
  ·have i:jM M n a d=some (4,(zT M,zT M),(.empty,0)):=by simp[jM,p,q,u,y,b,e,f,g,h]
   rw[i];exact zS M n _ _ _ _ _ _ a z d.length c w _ rfl b e f g (OI h) m
  ·have i:jM M n a d=none:=by simp[jM,p,q,u,y,b,e,f,h]
   exact jw M n _ _ _ _ _ _ a z d.length c w _ i b e f g (ai (ai (ai (ai ⟨rfl,rfl,rfl,rfl,vu h⟩)))) m
 replace g:=oK g;have i:jM M n a d=none:=by simp[jM,p,q,u,y,b,e,f,g]
 exact jw M n _ _ _ _ _ _ a z d.length c w _ i b e f g (ah ⟨rfl,rfl,rfl,rfl⟩) m
end Go.Proofs.YtmmahddlcldmiaaGreatDoor
