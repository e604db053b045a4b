/- What is proved here: code.readAct of right terms that lie in memory returns what rdA says, in new memory. No condition but that. -/
import Derived.Test.YtckamaoibonjcaaGreatH35
namespace Go.Proofs.YtckamaoibonjcaaGreat
open Go.RowKit
set_option maxHeartbeats 4000000
set_option maxRecDepth 100000
theorem jJ(l:List UInt8):(⟨l.toArray⟩:ByteArray).toList=l:=by rw[b8]
theorem mI(a:ByteArray)(l:List UInt8):si a ⟨l.toArray⟩=(a.toList==l):=by
 show (a.toList==(⟨l.toArray⟩:ByteArray).toList)=(a.toList==l);rw[show (⟨l.toArray⟩:ByteArray).toList=l from jJ l]
theorem dX{w w1:World}{a b:Obj}(c:Below ((w.alloc a).alloc b).heap.size ((w.alloc a).alloc b) w1):w1.heap[w.heap.size]?=some a/\w1.heap[w.heap.size+1]?=some b/\ai w w1/\w.heap.size+2<=w1.heap.size:=by
 have f:=c.size;have e:((w.alloc a).alloc b).heap.size=w.heap.size+2:=by simp
 have d:ai w ((w.alloc a).alloc b):=by go_grown
 exact⟨(c.block _ (by omega)).trans (jI w a b).1,(c.block _ (by omega)).trans (jI w a b).2,d.trans (c.mono d.size),by omega⟩
theorem iY(M _n:Nat)(k m:Int)(s:ByteArray)(xa:Option Addr)(n xc:Nat)(f:ByteArray)(a:Option Addr)(len c:Nat)(w:World)(o:Option (Ac (M+1)))(F:Hid (o=none)){t1 t2 b d:Bool}(H:(f.toList==[115,101,110,100])=t1)(I:(f.toList==[115,112,97,119,110])=t2)(J:(f.toList==[108,105,110,107])=b)(K:(f.toList==[115,116,111,112])=d)(E:(t1=false/\t2=false/\b=false/\d=false)\/(t1=true/\t2=false/\b=false/\d=false/\((len:Int)==2)=false)\/(t1=false/\t2=true/\b=false/\d=false/\((len:Int)==3)=false)\/(t1=false/\t2=false/\b=true/\d=false/\((len:Int)==1)=false)\/(t1=false/\t2=false/\b=false/\d=true/\((len:Int)==0)=false))(h:Hid (∀w1,ai w w1->ak 90 #[.agg #[ab k,ab m,ae s,.slice xa n xc]] w1 λe w'=>e=.returned (.tuple #[ae f,.slice a len c])/\ai w1 w')):ak 157 #[.agg #[ab k,ab m,ae s,.slice xa n xc]] w (mW M o w):=by
 rcases E with⟨rfl,rfl,rfl,rfl⟩|⟨rfl,rfl,rfl,rfl,g⟩|⟨rfl,rfl,rfl,rfl,g⟩|⟨rfl,rfl,rfl,rfl,g⟩|⟨rfl,rfl,rfl,rfl,g⟩
 all_goals
  go_enter Tryz.func157,Tryz.ntmps157;go_wp2_with fail;refine(h.out _ (by go_grown)).mono ?_;rintro e w1 ⟨rfl,i⟩;obtain⟨G,l,j,O⟩:=dX i;have p:=ao j;have q:=ao l;clear i G l j h;obtain⟨⟨r,d1,u,x,y,z,A,B,C,D,t⟩,L,N⟩:=lw q.out;go_wp2_with fail;exact ar (v:=.tuple #[.agg #[ab 0,ab 0,ab 0,ae .empty,.slice none 0 0,ab 0,ab 0,ae .empty,.slice none 0 0,ae .empty,ab 0],.bool false]) (by simp[results,Tryz.results157,go_sem,r,d1,u,x,y,z,A,B,C,D,t];rfl) rfl (pJ F.out ((jG _ _ _ _ _ _ _ _ _ _ _ _ _).below p.out (by omega)))
theorem yB(M _n:Nat)(k j:Int)(s:ByteArray)(xa:Option Addr)(l xc:Nat)(b:ByteArray)(a:Option Addr)(len c:Nat)(w:World)(o:Option (Ac (M+1)))(C:Hid (o=some (4,(zT M,zT M),(.empty,0))))(E:(b.toList==[115,101,110,100])=false)(F:(b.toList==[115,112,97,119,110])=false)(G:(b.toList==[108,105,110,107])=false)(H:(b.toList==[115,116,111,112])=true)(J:((len:Int)==0)=true)(d:Hid (∀w1,ai w w1->ak 90 #[.agg #[ab k,ab j,ae s,.slice xa l xc]] w1 λe w'=>e=.returned (.tuple #[ae b,.slice a len c])/\ai w1 w')):ak 157 #[.agg #[ab k,ab j,ae s,.slice xa l xc]] w (mW M o w):=by
 go_enter Tryz.func157,Tryz.ntmps157;go_wp2_with fail;refine(d.out _ (by go_grown)).mono ?_;rintro e w1 ⟨rfl,f⟩;obtain⟨D,i,h,L⟩:=dX f;have m:=ao h;have n:=ao i;clear f D i h d;obtain⟨⟨p,d1,r,t,u,x,y,z,A,B,q⟩,I,K⟩:=lw n.out;go_wp2_with fail;refine ar (v:=.tuple #[.agg #[ab 4,ab 0,ab 0,ae ⟨#[]⟩,.slice none 0 0,ab 0,ab 0,ae ⟨#[]⟩,.slice none 0 0,ae ⟨#[]⟩,ab 0],.bool true]) (by simp[results,Tryz.results157,go_sem,p,d1,r,t,u,x,y,z,A,B,q]) rfl ?_;exact mL (g:=w.heap.size+1) (w2:=w1) (w:=w) (4,(zT M,zT M),(.empty,0)) _ C.out (jG _ _ _ _ _ _ _ _ _ _ _ _ _) m.out (by omega) ⟨by simp[dk],kI _ _ _,kI _ _ _,aF _,by simp[dk]⟩ ⟨ag rfl,ag rfl⟩ ⟨rfl,kU (kI _ 0 w),kU (kI _ 0 w),rfl⟩
theorem yz(M n:Nat)(k A:Int)(s:ByteArray)(xa:Option Addr)(B xc:Nat)(h:ByteArray)(d po c:Nat)(w:World)(y:Tm (n+1))(T:n+1<=M+1)(o:Option (Ac (M+1)))(U:Hid (o=some (3,(aN (M+1) (n+1) y,zT M),(.empty,0))))(W:(h.toList==[115,101,110,100])=false)(X:(h.toList==[115,112,97,119,110])=false)(Y:(h.toList==[108,105,110,107])=true)(_b4:(h.toList==[115,116,111,112])=false)(i:d<w.heap.size)(C:w.cell? ⟨d,po,none⟩=some (ab y.1.1))(D:w.cell? ⟨d,po+1,none⟩=some (ab y.1.2.1))(E:w.cell? ⟨d,po+2,none⟩=some (ae y.1.2.2))(F:w.cell? ⟨d,po+3,none⟩=some (.slice y.2.1.1 y.2.2.length y.2.1.2))(m:Hid (∀w1,ai w w1->ak 90 #[.agg #[ab k,ab A,ae s,.slice xa B xc]] w1 λe w'=>e=.returned (.tuple #[ae h,.slice (some ⟨d,po,none⟩) 1 c])/\ai w1 w'))(l:Hid (∀w1,ai w w1->ak 54 #[.agg #[ab y.1.1,ab y.1.2.1,ae y.1.2.2,.slice y.2.1.1 y.2.2.length y.2.1.2]] w1 λe w'=>∃a:Tm (n+1),e=.returned (.agg #[ab a.1.1,ab a.1.2.1,ae a.1.2.2,.slice a.2.1.1 a.2.2.length a.2.1.2])/\Hid (ai w1 w'/\In w'.heap.size w' (n+1) a/\bZ (λq=>w1.heap.size<=q) (n+1) a/\aw (n+1) a (n+1) y=true))):ak 157 #[.agg #[ab k,ab A,ae s,.slice xa B xc]] w (mW M o w):=by
 go_enter Tryz.func157,Tryz.ntmps157;go_wp2_with fail;refine(m.out _ (by go_grown)).mono ?_;rintro e w1 ⟨rfl,t⟩;obtain⟨V,x,u,ah⟩:=dX t;have b:=ao u;have p:=ao x;clear t V x u m;replace C:=(ap b.out _ _ i).trans C;replace D:=(ap b.out _ _ i).trans D;replace E:=(ap b.out _ _ i).trans E;replace F:=(ap b.out _ _ i).trans F;have aa:d<w1.heap.size:=by omega
 go_wp2_with fail;refine(l.out _ b.out).mono ?_;rintro e w2 ⟨a,rfl,f⟩;have G:Hid (ai w w2):=b.out.trans (f.out.1.mono b.out.size);have r:=ao ((f.out.1.block (w.heap.size+1) (by omega)).trans p.out);obtain⟨⟨H,d1,J,K,L,N,O,P,Q,R,I⟩,Z,af⟩:=lw r.out;have j:=iv (M:=M) T f.out.2.1 (f.out.2.2.1.mono λq (ad:w1.heap.size<=q)=>(show w.heap.size+1<q by omega)) f.out.2.2.2;clear l p r;go_wp2_with fail;refine ar (v:=.tuple #[.agg #[ab 3,ab a.1.1,ab a.1.2.1,ae a.1.2.2,.slice a.2.1.1 a.2.2.length a.2.1.2,ab 0,ab 0,ae ⟨#[]⟩,.slice none 0 0,ae ⟨#[]⟩,ab 0],.bool true]) (by simp[results,Tryz.results157,go_sem,H,d1,J,K,L,N,O,P,Q,R,I]) rfl ?_;have e:fT (M+1) (3,(aN (M+1) (n+1) a,zT M),(.empty,0))=[ab 3,ab a.1.1,ab a.1.2.1,ae a.1.2.2,.slice a.2.1.1 a.2.2.length a.2.1.2,ab 0,ab 0,ae ⟨#[]⟩,.slice none 0 0,ae ⟨#[]⟩,ab 0]:=by
  show ab 3::(gX (M+1) (aN (M+1) (n+1) a)++gX (M+1) (zT M)++ [ae .empty,ab 0])=_;rw[f9];rfl
 have z:=λ(w':World)(S:bE (w.heap.size+1) w2 w')=>mL (g:=w.heap.size+1) (w2:=w2) (w:=w) (3,(aN (M+1) (n+1) a,zT M),(.empty,0)) _ U.out S G.out (by omega) ⟨by simp[dk],j.1,kI _ _ _,aF _,by simp[dk]⟩ ⟨j.2.1,ag rfl⟩ ⟨rfl,j.2.2,kU (kI _ 0 w),rfl⟩;rw[e]at z;exact z _ (jG _ _ _ _ _ _ _ _ _ _ _ _ _)
theorem Lx{g a po:Nat}{w w':World}{y x:Nd}(d:a<g)(c:bE g w w')(k:(w.cell? ⟨a,po,none⟩=some (ab y.1.1)/\w.cell? ⟨a,po+1,none⟩=some (ab y.1.2.1)/\w.cell? ⟨a,po+2,none⟩=some (ae y.1.2.2)/\w.cell? ⟨a,po+3,none⟩=some (.slice y.2.1 y.2.2.1 y.2.2.2))/\(w.cell? ⟨a,po+4,none⟩=some (ab x.1.1)/\w.cell? ⟨a,po+5,none⟩=some (ab x.1.2.1)/\w.cell? ⟨a,po+6,none⟩=some (ae x.1.2.2)/\w.cell? ⟨a,po+7,none⟩=some (.slice x.2.1 x.2.2.1 x.2.2.2))):(w'.cell? ⟨a,po,none⟩=some (ab y.1.1)/\w'.cell? ⟨a,po+1,none⟩=some (ab y.1.2.1)/\w'.cell? ⟨a,po+2,none⟩=some (ae y.1.2.2)/\w'.cell? ⟨a,po+3,none⟩=some (.slice y.2.1 y.2.2.1 y.2.2.2))/\(w'.cell? ⟨a,po+4,none⟩=some (ab x.1.1)/\w'.cell? ⟨a,po+5,none⟩=some (ab x.1.2.1)/\w'.cell? ⟨a,po+6,none⟩=some (ae x.1.2.2)/\w'.cell? ⟨a,po+7,none⟩=some (.slice x.2.1 x.2.2.1 x.2.2.2)):=by
 have b:=λo=>fP c (show a≠g by omega) o;exact⟨⟨(b _).trans k.1.1,(b _).trans k.1.2.1,(b _).trans k.1.2.2.1,(b _).trans k.1.2.2.2⟩,(b _).trans k.2.1,(b _).trans k.2.2.1,(b _).trans k.2.2.2.1,(b _).trans k.2.2.2.2⟩
theorem yA(M n:Nat)(k R:Int)(s:ByteArray)(xa:Option Addr)(S xc:Nat)(l:ByteArray)(a po c:Nat)(w:World)(y x:Tm (n+1))(O:n+1<=M+1)(o:Option (Ac (M+1)))(av:Hid (o=some (1,(aN (M+1) (n+1) y,aN (M+1) (n+1) x),(.empty,0))))(aB:(l.toList==[115,101,110,100])=true)(_b2:(l.toList==[115,112,97,119,110])=false)(_b3:(l.toList==[108,105,110,107])=false)(_b4:(l.toList==[115,116,111,112])=false)(h:a<w.heap.size)(E:w.cell? ⟨a,po,none⟩=some (ab y.1.1))(F:w.cell? ⟨a,po+1,none⟩=some (ab y.1.2.1))(G:w.cell? ⟨a,po+2,none⟩=some (ae y.1.2.2))(H:w.cell? ⟨a,po+3,none⟩=some (.slice y.2.1.1 y.2.2.length y.2.1.2))(A:w.cell? ⟨a,po+4,none⟩=some (ab x.1.1))(B:w.cell? ⟨a,po+5,none⟩=some (ab x.1.2.1))(C:w.cell? ⟨a,po+6,none⟩=some (ae x.1.2.2))(D:w.cell? ⟨a,po+7,none⟩=some (.slice x.2.1.1 x.2.2.length x.2.1.2))(K:Hid (∀w1,ai w w1->ak 90 #[.agg #[ab k,ab R,ae s,.slice xa S xc]] w1 λe w'=>e=.returned (.tuple #[ae l,.slice (some ⟨a,po,none⟩) 2 c])/\ai w1 w'))(I:Hid (∀w1,ai w w1->ak 54 #[.agg #[ab y.1.1,ab y.1.2.1,ae y.1.2.2,.slice y.2.1.1 y.2.2.length y.2.1.2]] w1 λe w'=>∃b:Tm (n+1),e=.returned (.agg #[ab b.1.1,ab b.1.2.1,ae b.1.2.2,.slice b.2.1.1 b.2.2.length b.2.1.2])/\Hid (ai w1 w'/\In w'.heap.size w' (n+1) b/\bZ (λq=>w1.heap.size<=q) (n+1) b/\aw (n+1) b (n+1) y=true)))(J:Hid (∀w1,ai w w1->ak 54 #[.agg #[ab x.1.1,ab x.1.2.1,ae x.1.2.2,.slice x.2.1.1 x.2.2.length x.2.1.2]] w1 λe w'=>∃b:Tm (n+1),e=.returned (.agg #[ab b.1.1,ab b.1.2.1,ae b.1.2.2,.slice b.2.1.1 b.2.2.length b.2.1.2])/\Hid (ai w1 w'/\In w'.heap.size w' (n+1) b/\bZ (λq=>w1.heap.size<=q) (n+1) b/\aw (n+1) b (n+1) x=true))):ak 157 #[.agg #[ab k,ab R,ae s,.slice xa S xc]] w (mW M o w):=by
 go_enter Tryz.func157,Tryz.ntmps157;go_wp2_with fail;refine(K.out _ (by go_grown)).mono ?_;rintro e w1 ⟨rfl,L⟩;obtain⟨az,P,N,aG⟩:=dX L;have d:=ao N;have V:=ao P;clear L az P N K;replace E:=(ap d.out _ _ h).trans E;replace F:=(ap d.out _ _ h).trans F;replace G:=(ap d.out _ _ h).trans G;replace H:=(ap d.out _ _ h).trans H;replace A:=(ap d.out _ _ h).trans A;replace B:=(ap d.out _ _ h).trans B;replace C:=(ap d.out _ _ h).trans C;replace D:=(ap d.out _ _ h).trans D;have ax:a<w1.heap.size:=by omega
 have p:Hid (∀w',ai w1 w'->(w'.cell? ⟨a,po,none⟩=some (ab y.1.1)/\w'.cell? ⟨a,po+1,none⟩=some (ab y.1.2.1)/\w'.cell? ⟨a,po+2,none⟩=some (ae y.1.2.2)/\w'.cell? ⟨a,po+3,none⟩=some (.slice y.2.1.1 y.2.2.length y.2.1.2))/\(w'.cell? ⟨a,po+4,none⟩=some (ab x.1.1)/\w'.cell? ⟨a,po+5,none⟩=some (ab x.1.2.1)/\w'.cell? ⟨a,po+6,none⟩=some (ae x.1.2.2)/\w'.cell? ⟨a,po+7,none⟩=some (.slice x.2.1.1 x.2.2.length x.2.1.2))):=λw' an=>by
  have f:=λo=>ap an a o ax;exact⟨⟨(f _).trans E,(f _).trans F,(f _).trans G,(f _).trans H⟩,(f _).trans A,(f _).trans B,(f _).trans C,(f _).trans D⟩
 go_wp2_with fail
 go_region_held3 (λw'=>(w'.cell? ⟨a,po,none⟩=some (ab y.1.1)/\w'.cell? ⟨a,po+1,none⟩=some (ab y.1.2.1)/\w'.cell? ⟨a,po+2,none⟩=some (ae y.1.2.2)/\w'.cell? ⟨a,po+3,none⟩=some (.slice y.2.1.1 y.2.2.length y.2.1.2))/\(w'.cell? ⟨a,po+4,none⟩=some (ab x.1.1)/\w'.cell? ⟨a,po+5,none⟩=some (ab x.1.2.1)/\w'.cell? ⟨a,po+6,none⟩=some (ae x.1.2.2)/\w'.cell? ⟨a,po+7,none⟩=some (.slice x.2.1.1 x.2.2.length x.2.1.2))) (first|with_reducible assumption|with_reducible exact p.out _ m.out|with_reducible exact p.out _ j.out|with_reducible exact U.out _ (jG _ _ _ _ _ _ _ _ _ _ _ _ _)|exact p.out _ (am _ _).drew)
  ((first
   | (go_at_call 54;refine(I.out _ d.out.drew).mono ?_;rintro e w2 ⟨b,rfl,r⟩;have j:=ao (cD r.out.1);clear I)
   | (go_at_call 54;refine(J.out _ (d.out.trans (j.out.mono d.out.size))).mono ?_;rintro e t ⟨q,rfl,i⟩;have m:=ao (j.out.trans (i.out.1.mono j.out.size));clear J;have W:=ao ((m.out.block (w.heap.size+1) (by omega)).trans V.out);obtain⟨⟨X,d1,Z,aa,ad,af,ag,ah,aj,al,Y⟩,aC,aE⟩:=lw W.out;have U:Hid (∀w',bE (w.heap.size+1) t w'->(w'.cell? ⟨a,po,none⟩=some (ab y.1.1)/\w'.cell? ⟨a,po+1,none⟩=some (ab y.1.2.1)/\w'.cell? ⟨a,po+2,none⟩=some (ae y.1.2.2)/\w'.cell? ⟨a,po+3,none⟩=some (.slice y.2.1.1 y.2.2.length y.2.1.2))/\(w'.cell? ⟨a,po+4,none⟩=some (ab x.1.1)/\w'.cell? ⟨a,po+5,none⟩=some (ab x.1.2.1)/\w'.cell? ⟨a,po+6,none⟩=some (ae x.1.2.2)/\w'.cell? ⟨a,po+7,none⟩=some (.slice x.2.1.1 x.2.2.length x.2.1.2))):=(λaA au=>Lx (y:=bu n y) (x:=bu n x) (show a<w.heap.size+1 by omega) au (p.out _ m.out)))))
 go_wp2_with fail;have T:Hid (ai w t):=d.out.trans (m.out.mono d.out.size);have aD:w1.heap.size<=w2.heap.size:=j.out.size;have u:=iv (M:=M) O ((r.out.2.1.below i.out.1).mono i.out.1.size) (r.out.2.2.1.mono λq (ay:w1.heap.size<=q)=>(show w.heap.size+1<q by omega)) r.out.2.2.2;have z:=iv (M:=M) O i.out.2.1 (i.out.2.2.1.mono λq (ay:w2.heap.size<=q)=>(show w.heap.size+1<q by omega)) i.out.2.2.2;refine ar (v:=.tuple #[.agg #[ab 1,ab b.1.1,ab b.1.2.1,ae b.1.2.2,.slice b.2.1.1 b.2.2.length b.2.1.2,ab q.1.1,ab q.1.2.1,ae q.1.2.2,.slice q.2.1.1 q.2.2.length q.2.1.2,ae ⟨#[]⟩,ab 0],.bool true]) (by simp[results,Tryz.results157,go_sem,X,d1,Z,aa,ad,af,ag,ah,aj,al,Y]) rfl ?_;have e:fT (M+1) (1,(aN (M+1) (n+1) b,aN (M+1) (n+1) q),(.empty,0))=[ab 1,ab b.1.1,ab b.1.2.1,ae b.1.2.2,.slice b.2.1.1 b.2.2.length b.2.1.2,ab q.1.1,ab q.1.2.1,ae q.1.2.2,.slice q.2.1.1 q.2.2.length q.2.1.2,ae ⟨#[]⟩,ab 0]:=by
  show ab 1::(gX (M+1) (aN (M+1) (n+1) b)++gX (M+1) (aN (M+1) (n+1) q)++ [ae .empty,ab 0])=_;rw[f9,f9];rfl
 have Q:=λ(w':World)(aq:bE (w.heap.size+1) t w')=>mL (g:=w.heap.size+1) (w2:=t) (w:=w) (1,(aN (M+1) (n+1) b,aN (M+1) (n+1) q),(.empty,0)) _ av.out aq T.out (by omega) ⟨by simp[dk],u.1,z.1,aF _,by simp[dk]⟩ ⟨u.2.1,z.2.1⟩ ⟨rfl,u.2.2,z.2.2,rfl⟩;rw[e]at Q;exact Q _ (jG _ _ _ _ _ _ _ _ _ _ _ _ _)
theorem Ly{n g a po:Nat}{w w':World}{y x t:Tm (n+1)}(d:a<g)(c:bE g w w')(k:(w.cell? ⟨a,po,none⟩=some (ab y.1.1)/\w.cell? ⟨a,po+1,none⟩=some (ab y.1.2.1)/\w.cell? ⟨a,po+2,none⟩=some (ae y.1.2.2)/\w.cell? ⟨a,po+3,none⟩=some (.slice y.2.1.1 y.2.2.length y.2.1.2))/\(w.cell? ⟨a,po+4,none⟩=some (ab x.1.1)/\w.cell? ⟨a,po+5,none⟩=some (ab x.1.2.1)/\w.cell? ⟨a,po+6,none⟩=some (ae x.1.2.2)/\w.cell? ⟨a,po+7,none⟩=some (.slice x.2.1.1 x.2.2.length x.2.1.2))/\(w.cell? ⟨a,po+8,none⟩=some (ab t.1.1)/\w.cell? ⟨a,po+9,none⟩=some (ab t.1.2.1)/\w.cell? ⟨a,po+10,none⟩=some (ae t.1.2.2)/\w.cell? ⟨a,po+11,none⟩=some (.slice t.2.1.1 t.2.2.length t.2.1.2))):(w'.cell? ⟨a,po,none⟩=some (ab y.1.1)/\w'.cell? ⟨a,po+1,none⟩=some (ab y.1.2.1)/\w'.cell? ⟨a,po+2,none⟩=some (ae y.1.2.2)/\w'.cell? ⟨a,po+3,none⟩=some (.slice y.2.1.1 y.2.2.length y.2.1.2))/\(w'.cell? ⟨a,po+4,none⟩=some (ab x.1.1)/\w'.cell? ⟨a,po+5,none⟩=some (ab x.1.2.1)/\w'.cell? ⟨a,po+6,none⟩=some (ae x.1.2.2)/\w'.cell? ⟨a,po+7,none⟩=some (.slice x.2.1.1 x.2.2.length x.2.1.2))/\(w'.cell? ⟨a,po+8,none⟩=some (ab t.1.1)/\w'.cell? ⟨a,po+9,none⟩=some (ab t.1.2.1)/\w'.cell? ⟨a,po+10,none⟩=some (ae t.1.2.2)/\w'.cell? ⟨a,po+11,none⟩=some (.slice t.2.1.1 t.2.2.length t.2.1.2)):=by
 have b:=λo=>fP c (show a≠g by omega) o;exact⟨⟨(b _).trans k.1.1,(b _).trans k.1.2.1,(b _).trans k.1.2.2.1,(b _).trans k.1.2.2.2⟩,⟨(b _).trans k.2.1.1,(b _).trans k.2.1.2.1,(b _).trans k.2.1.2.2.1,(b _).trans k.2.1.2.2.2⟩,(b _).trans k.2.2.1,(b _).trans k.2.2.2.1,(b _).trans k.2.2.2.2.1,(b _).trans k.2.2.2.2.2⟩
theorem vy(M n:Nat)(k S:Int)(s:ByteArray)(xa:Option Addr)(T xc:Nat)(j:ByteArray)(d po c:Nat)(w:World)(y x t:Tm (n+1))(o:Option (Ac (M+1)))(az:(j.toList==[115,101,110,100])=false)(aA:(j.toList==[115,112,97,119,110])=true)(_b3:(j.toList==[108,105,110,107])=false)(_b4:(j.toList==[115,116,111,112])=false)(h:d<w.heap.size)(F:w.cell? ⟨d,po,none⟩=some (ab y.1.1))(G:w.cell? ⟨d,po+1,none⟩=some (ab y.1.2.1))(H:w.cell? ⟨d,po+2,none⟩=some (ae y.1.2.2))(I:w.cell? ⟨d,po+3,none⟩=some (.slice y.2.1.1 y.2.2.length y.2.1.2))(B:w.cell? ⟨d,po+4,none⟩=some (ab x.1.1))(C:w.cell? ⟨d,po+5,none⟩=some (ab x.1.2.1))(D:w.cell? ⟨d,po+6,none⟩=some (ae x.1.2.2))(E:w.cell? ⟨d,po+7,none⟩=some (.slice x.2.1.1 x.2.2.length x.2.1.2))(q:w.cell? ⟨d,po+8,none⟩=some (ab t.1.1))(r:w.cell? ⟨d,po+9,none⟩=some (ab t.1.2.1))(u:w.cell? ⟨d,po+10,none⟩=some (ae t.1.2.2))(z:w.cell? ⟨d,po+11,none⟩=some (.slice t.2.1.1 t.2.2.length t.2.1.2))(K:Hid (∀w1,ai w w1->ak 90 #[.agg #[ab k,ab S,ae s,.slice xa T xc]] w1 λe w'=>e=.returned (.tuple #[ae j,.slice (some ⟨d,po,none⟩) 3 c])/\ai w1 w'))(J:Hid (∀w1,ai w w1->ak 169 #[.agg #[ab y.1.1,ab y.1.2.1,ae y.1.2.2,.slice y.2.1.1 y.2.2.length y.2.1.2],.agg #[ab x.1.1,ab x.1.2.1,ae x.1.2.2,.slice x.2.1.1 x.2.2.length x.2.1.2],.agg #[ab t.1.1,ab t.1.2.1,ae t.1.2.2,.slice t.2.1.1 t.2.2.length t.2.1.2]] w1 (mW M o w1))):ak 157 #[.agg #[ab k,ab S,ae s,.slice xa T xc]] w (mW M o w):=by
 go_enter Tryz.func157,Tryz.ntmps157;go_wp2_with fail;refine(K.out _ (by go_grown)).mono ?_;rintro e w1 ⟨rfl,N⟩;obtain⟨ax,R,O,aE⟩:=dX N;have f:=ao O;have W:=ao R;clear N ax R O K;replace F:=(ap f.out _ _ h).trans F;replace G:=(ap f.out _ _ h).trans G;replace H:=(ap f.out _ _ h).trans H;replace I:=(ap f.out _ _ h).trans I;replace B:=(ap f.out _ _ h).trans B;replace C:=(ap f.out _ _ h).trans C;replace D:=(ap f.out _ _ h).trans D;replace E:=(ap f.out _ _ h).trans E;replace q:=(ap f.out _ _ h).trans q;replace r:=(ap f.out _ _ h).trans r;replace u:=(ap f.out _ _ h).trans u;replace z:=(ap f.out _ _ h).trans z;have aw:d<w1.heap.size:=by omega
 have p:Hid (∀w',ai w1 w'->(w'.cell? ⟨d,po,none⟩=some (ab y.1.1)/\w'.cell? ⟨d,po+1,none⟩=some (ab y.1.2.1)/\w'.cell? ⟨d,po+2,none⟩=some (ae y.1.2.2)/\w'.cell? ⟨d,po+3,none⟩=some (.slice y.2.1.1 y.2.2.length y.2.1.2))/\(w'.cell? ⟨d,po+4,none⟩=some (ab x.1.1)/\w'.cell? ⟨d,po+5,none⟩=some (ab x.1.2.1)/\w'.cell? ⟨d,po+6,none⟩=some (ae x.1.2.2)/\w'.cell? ⟨d,po+7,none⟩=some (.slice x.2.1.1 x.2.2.length x.2.1.2))/\(w'.cell? ⟨d,po+8,none⟩=some (ab t.1.1)/\w'.cell? ⟨d,po+9,none⟩=some (ab t.1.2.1)/\w'.cell? ⟨d,po+10,none⟩=some (ae t.1.2.2)/\w'.cell? ⟨d,po+11,none⟩=some (.slice t.2.1.1 t.2.2.length t.2.1.2))):=λw' au=>by
  have g:=λo=>ap au d o aw;exact⟨⟨(g _).trans F,(g _).trans G,(g _).trans H,(g _).trans I⟩,⟨(g _).trans B,(g _).trans C,(g _).trans D,(g _).trans E⟩,(g _).trans q,(g _).trans r,(g _).trans u,(g _).trans z⟩
 go_wp2_with fail
 go_region_held3 (λw'=>(w'.cell? ⟨d,po,none⟩=some (ab y.1.1)/\w'.cell? ⟨d,po+1,none⟩=some (ab y.1.2.1)/\w'.cell? ⟨d,po+2,none⟩=some (ae y.1.2.2)/\w'.cell? ⟨d,po+3,none⟩=some (.slice y.2.1.1 y.2.2.length y.2.1.2))/\(w'.cell? ⟨d,po+4,none⟩=some (ab x.1.1)/\w'.cell? ⟨d,po+5,none⟩=some (ab x.1.2.1)/\w'.cell? ⟨d,po+6,none⟩=some (ae x.1.2.2)/\w'.cell? ⟨d,po+7,none⟩=some (.slice x.2.1.1 x.2.2.length x.2.1.2))/\(w'.cell? ⟨d,po+8,none⟩=some (ab t.1.1)/\w'.cell? ⟨d,po+9,none⟩=some (ab t.1.2.1)/\w'.cell? ⟨d,po+10,none⟩=some (ae t.1.2.2)/\w'.cell? ⟨d,po+11,none⟩=some (.slice t.2.1.1 t.2.2.length t.2.1.2))) (first|with_reducible assumption|with_reducible exact p.out _ l.out|with_reducible exact V.out _ (jG _ _ _ _ _ _ _ _ _ _ _ _ _)|exact p.out _ (am _ _).drew)
  ((go_at_call 169;refine(J.out _ f.out.drew).mono ?_;rintro e A ⟨a,b,rfl,i⟩;have L:Value.agg (fT (M+1) a).toArray=.agg #[ab a.1,ab a.2.1.1.1.1,ab a.2.1.1.1.2.1,ae a.2.1.1.1.2.2,.slice a.2.1.1.2.1.1 a.2.1.1.2.2.length a.2.1.1.2.1.2,ab a.2.1.2.1.1,ab a.2.1.2.1.2.1,ae a.2.1.2.1.2.2,.slice a.2.1.2.2.1.1 a.2.1.2.2.2.length a.2.1.2.2.1.2,ae a.2.2.1,ab a.2.2.2]:=rfl;rw[L];clear L;have l:=ao (cD i.out.1);clear J;have X:=ao ((l.out.block (w.heap.size+1) (by omega)).trans W.out);obtain⟨⟨Z,d1,ad,af,ag,ah,aj,al,an,aq,aa⟩,aB,aD⟩:=lw X.out;have V:=ao (λY (av:bE (w.heap.size+1) A Y)=>Ly (y:=y) (x:=x) (t:=t) (show d<w.heap.size+1 by omega) av (p.out _ l.out))))
 go_wp2_with fail;have U:Hid (ai w A):=f.out.trans (l.out.mono f.out.size);refine ar (v:=.tuple #[.agg #[ab a.1,ab a.2.1.1.1.1,ab a.2.1.1.1.2.1,ae a.2.1.1.1.2.2,.slice a.2.1.1.2.1.1 a.2.1.1.2.2.length a.2.1.1.2.1.2,ab a.2.1.2.1.1,ab a.2.1.2.1.2.1,ae a.2.1.2.1.2.2,.slice a.2.1.2.2.1.1 a.2.1.2.2.2.length a.2.1.2.2.1.2,ae a.2.2.1,ab a.2.2.2],.bool b]) (by simp[results,Tryz.results157,go_sem,Z,d1,ad,af,ag,ah,aj,al,an,aq,aa]) rfl ?_;have ay:∀w',bE (w.heap.size+1) A w'->mW M o w (.returned (.tuple #[.agg #[ab a.1,ab a.2.1.1.1.1,ab a.2.1.1.1.2.1,ae a.2.1.1.1.2.2,.slice a.2.1.1.2.1.1 a.2.1.1.2.2.length a.2.1.1.2.1.2,ab a.2.1.2.1.1,ab a.2.1.2.1.2.1,ae a.2.1.2.1.2.2,.slice a.2.1.2.2.1.1 a.2.1.2.2.2.length a.2.1.2.2.1.2,ae a.2.2.1,ab a.2.2.2],.bool b])) w':=λw' Q=>⟨a,b,rfl,Q.below U.out (by omega),i.out.2.1,Q.stays (fu _) (P:=λm=>w1.heap.size<=m) (by omega) i.out.2.2.2.1 i.out.2.2.1,(fu _).1 _ _ _ (λm (aC:w1.heap.size<=m)=>(show w.heap.size<=m by omega)) i.out.2.2.2.1,i.out.2.2.2.2⟩;exact ay _ (jG _ _ _ _ _ _ _ _ _ _ _ _ _)
theorem gU{n B:Nat}{w:World}{q:List (Tm (n+1))}{e po:Nat}(a:ft B w (n+1) q (some ⟨e,po,none⟩)){i:Nat}{y:Tm (n+1)}(d:q[i]?=some y):dr w e (po+i*4) (n+1) y/\In B w (n+1) y/\e<B:=by
 rcases a with a|⟨b,o,c,h,a⟩
 ·subst a;simp at d
 ·injection c with c;injection c with f g;subst f g;exact⟨(a i y d).1,(a i y d).2,h⟩
theorem re{B:Nat}{w:World}{q:List (Tm 0)}{a:Option Addr}(b:ft B w 0 q a){i:Nat}{y:Tm 0}(c:q[i]?=some y):False:=by
 rcases b with b|⟨_,_,_,_,b⟩
 ·subst b;simp at c
 ·exact(b i y c).1
theorem qA{n B:Nat}{w:World}{q:List (Tm n)}{a:Option Addr}(c:ft B w n q a)(e:0<q.length):∃b o,a=some ⟨b,o,none⟩:=by
 rcases c with c|⟨b,o,d,_⟩
 ·subst c;simp at e
 ·exact⟨b,o,d⟩
theorem dW{n:Nat}{x:Tm (n+1)}(b:aA ⟨n+1,x⟩){y:Tm n}(a:y∈bI n x):aA ⟨n,y⟩:=by
 unfold bI at a;split at a
 ·split at a
  ·split at a
   ·exact aR n x y b (List.mem_of_mem_drop a)
   ·cases a
  ·cases a
 ·cases a
theorem qI(n:Nat)(x:Tm (n+1))(B:Nat)(w:World)(D:In B w (n+1) x)(J:B<=w.heap.size):∃a c,ft B w n (bI n x) a/\(bI n x).length<=c/\c<=9223372036854775807/\∀w1,ai w w1->ak 90 #[.agg #[ab x.1.1,ab x.1.2.1,ae x.1.2.2,.slice x.2.1.1 x.2.2.length x.2.1.2]] w1 λe w'=>e=.returned (.tuple #[ae (eP n x),.slice a (bI n x).length c])/\ai w1 w':=by
 obtain⟨⟨k,h,g⟩,⟨a,c⟩,f⟩:=x;obtain⟨⟨_,_,_,s,y⟩,i⟩:=D;simp only at s y i ⊢;have C:c<=9223372036854775807:=by unfold maxLen at y;omega
 by_cases t:k=4
 ·subst t;rcases i with i|⟨b,o,rfl,A,i⟩
  ·subst i;exact⟨none,0,ag rfl,aj _,aF _,λw1 _=>AM h g a c w1⟩
  ·cases f with
   | nil=>exact⟨none,0,ag rfl,aj _,aF _,λw1 _=>AM h g _ c w1⟩
   | cons d f=>
    obtain⟨r,I⟩:=i 0 d rfl;cases n with
    | zero=>exact r.elim
    | succ n=>
    obtain⟨u,G,z,H⟩:=r;by_cases l:d.1.1=2
    ·have p:eP (n+1) ((4,h,g),(some ⟨b,o,none⟩,c),d::f)=d.1.2.2:=by simp[eP,bN,l,fX,bu]
     have q:bI (n+1) ((4,h,g),(some ⟨b,o,none⟩,c),d::f)=f:=by simp[bI,bN,l]
     rw[p,q];refine⟨if c=1 then some ⟨b,o,none⟩else some ⟨b,o+4,none⟩,c-1,?_,by simp at s;omega,by omega,λw1 m=>?_⟩
     ·by_cases r:c=1
      ·exact ag (bB (by simp at s;omega))
      ·rw[if_neg r];refine ah ⟨b,o+4,rfl,A,λv F E=>?_⟩;have:=i (v+1) F (by simpa using E);rw[show o+4+v*4=o+(v+1)*4 by omega];exact this
     ·have j:b<w.heap.size:=by omega
      have d:=FV h g b o (d::f).length c (by simp) s C d.1.2.2 w1 (aL j m.size) ((ap m _ _ j).trans (by rw[l]at u;simpa using u)) ((ap m _ _ j).trans (by simpa using z));exact d
    ·have p:eP (n+1) ((4,h,g),(some ⟨b,o,none⟩,c),d::f)=⟨#[]⟩:=by simp[eP,bN,l];rfl
     have q:bI (n+1) ((4,h,g),(some ⟨b,o,none⟩,c),d::f)=[]:=by simp[bI,bN,l]
     rw[p,q];have j:b<w.heap.size:=by omega
     exact⟨none,0,ag rfl,aj _,aF _,λw1 m=>CQ h g b o (d::f).length c (by simp) d.1.1 (by simpa using l) w1 (aL j m.size) ((ap m _ _ j).trans (by simpa using u))⟩
 ·have p:eP n ((k,h,g),(a,c),f)=⟨#[]⟩:=by simp[eP,t];rfl
  have q:bI n ((k,h,g),(a,c),f)=[]:=by simp[bI,t]
  rw[p,q];exact⟨none,0,ag rfl,aj _,aF _,λw1 _=>FW k h g a f.length c w1 (by simpa using t)⟩
theorem lF{n:Nat}{y:Tm (n+1)}{B:Nat}{w:World}(f:In B w (n+1) y)(d:aA ⟨n+1,y⟩)(c:B<=w.heap.size):∀w1,ai w w1->ak 54 #[.agg #[ab y.1.1,ab y.1.2.1,ae y.1.2.2,.slice y.2.1.1 y.2.2.length y.2.1.2]] w1 λe w'=>∃a:Tm (n+1),e=.returned (.agg #[ab a.1.1,ab a.1.2.1,ae a.1.2.2,.slice a.2.1.1 a.2.2.length a.2.1.2])/\Hid (ai w1 w'/\In w'.heap.size w' (n+1) a/\bZ (λq=>w1.heap.size<=q) (n+1) a/\aw (n+1) a (n+1) y=true):=
 λw1 b=>gS (n+1) y B w1 (f.below (b.mono c)) (ax c b.size) d
theorem nV{a:Bool}(b:¬a=true):a=false:=by cases a<;>simp_all
theorem MW{l k:Nat}(a:l=k):((l:Int)==(k:Int))=true:=by simp[a]
theorem ux{l k:Nat}(a:¬l=k):((l:Int)==(k:Int))=false:=by simp;omega
theorem A0(M n:Nat)(al:n<=M+1)(x:Tm n)(B:Nat)(w:World)(S:In B w n x)(aa:aA ⟨n,x⟩)(r:B<=w.heap.size):ak 157 #[df n x] w (mW M (rK M n x) w):=by
 cases n with
 | zero=>exact S.elim
 | succ n=>
 obtain⟨z,c,o,aj,ai,m⟩:=qI n x B w S r;show ak 157 #[.agg #[ab x.1.1,ab x.1.2.1,ae x.1.2.2,.slice x.2.1.1 x.2.2.length x.2.1.2]] w (mW M (jp M n (eP n x) (bI n x)) w);have G:∀j∈bI n x,aA ⟨n,j⟩:=λj k=>dW aa k;generalize eP n x=a at*;generalize bI n x=d at*;have p:si a lU=(a.toList==[115,101,110,100]):=mI a [115,101,110,100];have q:si a iF=(a.toList==[115,112,97,119,110]):=mI a [115,112,97,119,110];have u:si a lT=(a.toList==[108,105,110,107]):=mI a [108,105,110,107];have y:si a ld=(a.toList==[115,116,111,112]):=mI a [115,116,111,112];have ne:∀(l P:List UInt8),(l==P)=false->(a.toList==l)=true->(a.toList==P)=false:=λl P A Y=>by
  have T:a.toList=l:=by simpa using Y
  rw[T];exact A
 have get:∀J,J<d.length->∃j,d[J]?=some j:=λJ Z=>⟨d[J],aE Z⟩;by_cases b:(a.toList==[115,101,110,100])=true
 ·have e:=ne _ [115,112,97,119,110] (by decide) b;have f:=ne _ [108,105,110,107] (by decide) b;have g:=ne _ [115,116,111,112] (by decide) b;by_cases h:d.length=2
  ·obtain⟨j,k⟩:=get 0 (by omega);obtain⟨s,v⟩:=get 1 (by omega);have i:jp M n a d=some (1,(aN (M+1) n j,aN (M+1) n s),(.empty,0)):=by
    unfold jp;rw[if_pos (by rw[p,b,h];rfl),k,v];rfl
   rw[i];rw[h]at m;obtain⟨I,po,rfl⟩:=qA o (by omega);cases n with
   | zero=>exact(re o k).elim
   | succ n=>
   obtain⟨⟨C,D,E,F⟩,H,Q⟩:=gU o k;obtain⟨⟨K,d1,L,N⟩,O,_⟩:=gU o v;exact yA M n _ _ _ _ _ _ a I po c w j s (by omega) _ rfl b e f g (by omega) (by simpa using C) (by simpa using D) (by simpa using E) (by simpa using F) (by simpa using K) (by simpa using d1) (by simpa using L) (by simpa using N) m (lF H (G j (aG k)) r) (lF O (G s (aG v)) r)
  ·have i:jp M n a d=none:=by simp[jp,p,q,u,y,e,f,g,h]
   exact iY M n _ _ _ _ _ _ a z d.length c w _ i b e f g (ah (ag ⟨rfl,rfl,rfl,rfl,ux h⟩)) m
 replace b:=nV b;by_cases e:(a.toList==[115,112,97,119,110])=true
 ·have f:=ne _ [108,105,110,107] (by decide) e;have g:=ne _ [115,116,111,112] (by decide) e;by_cases h:d.length=3
  ·obtain⟨j,k⟩:=get 0 (by omega);obtain⟨s,v⟩:=get 1 (by omega);obtain⟨t,R⟩:=get 2 (by omega);have i:jp M n a d=yx M n j s t:=by
    unfold jp;rw[if_neg (by rw[p,b];simp),if_pos (by rw[q,e,h];rfl),k,v,R];rfl
   rw[i];rw[h]at m;obtain⟨I,po,rfl⟩:=qA o (by omega);cases n with
   | zero=>exact(re o k).elim
   | succ n=>
   obtain⟨⟨C,D,E,F⟩,H,Q⟩:=gU o k;obtain⟨⟨K,d1,L,N⟩,O,_⟩:=gU o v;obtain⟨⟨U,V,W,X⟩,ad,_⟩:=gU o R;exact vy M n _ _ _ _ _ _ a I po c w j s t _ b e f g (by omega) (by simpa using C) (by simpa using D) (by simpa using E) (by simpa using F) (by simpa using K) (by simpa using d1) (by simpa using L) (by simpa using N) (by simpa using U) (by simpa using V) (by simpa using W) (by simpa using X) m (λaf A=>vA M n (by omega) j s t B af (H.below (A.mono r)) (O.below (A.mono r)) (ad.below (A.mono r)) (G j (aG k)) (G s (aG v)) (ax r A.size))
  ·have i:jp M n a d=none:=by simp[jp,p,q,u,y,b,f,g,h]
   exact iY M n _ _ _ _ _ _ a z d.length c w _ i b e f g (ah (ah (ag ⟨rfl,rfl,rfl,rfl,ux h⟩))) m
 replace e:=nV e;by_cases f:(a.toList==[108,105,110,107])=true
 ·have g:=ne _ [115,116,111,112] (by decide) f;by_cases h:d.length=1
  ·obtain⟨j,k⟩:=get 0 (by omega);have i:jp M n a d=some (3,(aN (M+1) n j,zT M),(.empty,0)):=by
    unfold jp;rw[if_neg (by rw[p,b];simp),if_neg (by rw[q,e];simp),if_pos (by rw[u,f,h];rfl),k];rfl
   rw[i];rw[h]at m;obtain⟨I,po,rfl⟩:=qA o (by omega);cases n with
   | zero=>exact(re o k).elim
   | succ n=>
   obtain⟨⟨C,D,E,F⟩,H,Q⟩:=gU o k;exact yz M n _ _ _ _ _ _ a I po c w j (by omega) _ rfl b e f g (by omega) (by simpa using C) (by simpa using D) (by simpa using E) (by simpa using F) m (lF H (G j (aG k)) r)
  ·have i:jp M n a d=none:=by simp[jp,p,q,u,y,b,e,g,h]
   exact iY M n _ _ _ _ _ _ a z d.length c w _ i b e f g (ah (ah (ah (ag ⟨rfl,rfl,rfl,rfl,ux h⟩)))) m
 replace f:=nV f;by_cases g:(a.toList==[115,116,111,112])=true
 ·by_cases h:d.length=0
  ·have i:jp M n a d=some (4,(zT M,zT M),(.empty,0)):=by simp[jp,p,q,u,y,b,e,f,g,h]
   rw[i];exact yB M n _ _ _ _ _ _ a z d.length c w _ rfl b e f g (MW h) m
  ·have i:jp M n a d=none:=by simp[jp,p,q,u,y,b,e,f,h]
   exact iY M n _ _ _ _ _ _ a z d.length c w _ i b e f g (ah (ah (ah (ah ⟨rfl,rfl,rfl,rfl,ux h⟩)))) m
 replace g:=nV g;have i:jp M n a d=none:=by simp[jp,p,q,u,y,b,e,f,g]
 exact iY M n _ _ _ _ _ _ a z d.length c w _ i b e f g (ag ⟨rfl,rfl,rfl,rfl⟩) m
end Go.Proofs.YtckamaoibonjcaaGreat
