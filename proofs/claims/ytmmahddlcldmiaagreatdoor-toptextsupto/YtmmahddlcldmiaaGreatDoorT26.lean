/- Proved here: plain facts and contracts. No condition but what each names. -/
import Derived.Test.YtmmahddlcldmiaaGreatDoorT25
import Derived.Deep.DeepAppendWide
namespace Go.Proofs.YtmmahddlcldmiaaGreatDoor
open Go.RowKit Go.Proofs.Tryz
set_option maxHeartbeats 4000000
set_option maxRecDepth 100000
abbrev jm(M:Nat)(o:Option (Cl (M+1)))(w:World)(e:Ending)(w':World):Prop:=qN (eZ (M+1)) (gY (M+1)) (jR (M+1)) (CS (M+1)) o w e w'
def Qv(M:Nat):Cl (M+1):=((zT M,zT M,zT M),(none,0),[])
theorem lR{M:Nat}{o:Option (Cl (M+1))}{w w':World}(b:o=none)(a:aj w w'):jm M o w (.returned (.tuple #[.agg #[ab 0,ab 0,af .empty,ae none 0 0,ab 0,ab 0,af .empty,ae none 0 0,ae none 0 0,ab 0,ab 0,af .empty,ae none 0 0],.bool false])) w':=by
 subst b;exact⟨Qv M,false,rfl,a,rfl,⟨⟨lp _ _ _,lp _ _ _,lp _ _ _⟩,⟨ak _,aI _⟩,ah rfl⟩,⟨⟨ah rfl,ah rfl,ah rfl⟩,ah rfl⟩,λd c=>by cases c⟩
theorem mB{n:Nat}{m:Tm (n+1)}(c:aD ⟨n+1,m⟩)(d:m.1.1=4):m.2.2.length<=8:=by
 have b:=c (bw n m) (by simp[ax,bw]);unfold cg at b;have a:(bw n m).1.1=4:=d;rw[if_neg (by rw[a];omega),if_neg (by rw[a];omega),if_neg (by rw[a];omega),if_pos a]at b;simp only[aA,bO]at b;have e:(m.2.2.length:Int)<=8:=b.1.2;omega
theorem tY{w:World}{q:Nat}{c0 b f g h i k l m n c d e:Value}{t:TypeId}(a:w.heap[q]?=some (.cells #[c0,b,f,g,h,i,k,l,m,n,c,d,e] t)):(w.cell? ⟨q,0,none⟩=some c0/\w.cell? ⟨q,1,none⟩=some b/\w.cell? ⟨q,2,none⟩=some f/\w.cell? ⟨q,3,none⟩=some g/\w.cell? ⟨q,4,none⟩=some h/\w.cell? ⟨q,5,none⟩=some i/\w.cell? ⟨q,6,none⟩=some k/\w.cell? ⟨q,7,none⟩=some l/\w.cell? ⟨q,8,none⟩=some m/\w.cell? ⟨q,9,none⟩=some n/\w.cell? ⟨q,10,none⟩=some c/\w.cell? ⟨q,11,none⟩=some d/\w.cell? ⟨q,12,none⟩=some e)/\(∀j,w.frozen? ⟨q,j,none⟩=false)/\q<w.heap.size:=
 ⟨⟨au a 0,au a 1,au a 2,au a 3,au a 4,au a 5,au a 6,au a 7,au a 8,au a 9,au a 10,au a 11,au a 12⟩,λj=>cQ a j,(aF.1 a).1⟩
theorem tN(M _n:Nat)(k h:Int)(s:ByteArray)(xa:Option Addr)(j xc:Nat)(i:ByteArray)(a:Option Addr)(len c:Nat)(w:World)(o:Option (Cl (M+1)))(n:Hid (o=none))(q:(i.toList==[111,110])=false)(b:Hid (∀w1,aj w w1->am 64 #[.agg #[ab k,ab h,af s,ae xa j xc]] w1 λe w'=>e=.returned (.tuple #[af i,ae a len c])/\aj w1 w')):am 95 #[.agg #[ab k,ab h,af s,ae xa j xc]] w (jm M o w):=by
 go_enter func95,ntmps95;go_wp2_with fail;refine(b _ (by go_grown)).mono ?_;rintro e w1 ⟨rfl,d⟩;obtain⟨p,g,f,t⟩:=ey d;have l:=aq f;have m:=aq g;clear d p g f b;obtain⟨⟨d0,d1,d2,d3,d4,d5,d6,d7,d8,d9,d10,d11,d12⟩,f0,r⟩:=tY m;go_wp2_with fail;exact av (v:=.tuple #[.agg #[ab 0,ab 0,af .empty,ae none 0 0,ab 0,ab 0,af .empty,ae none 0 0,ae none 0 0,ab 0,ab 0,af .empty,ae none 0 0],.bool false]) (by simp[results,results95,go_sem,d0,d1,d2,d3,d4,d5,d6,d7,d8,d9,d10,d11,d12];rfl) rfl (lR n ((rk _ _ _ _ _ _ _ _ _ _ _ _ _ _ _).below l (by omega)))
theorem vO(M _n:Nat)(k h:Int)(s:ByteArray)(xa:Option Addr)(j xc:Nat)(i:ByteArray)(a:Option Addr)(len c:Nat)(w:World)(o:Option (Cl (M+1)))(n:Hid (o=none))(q:(i.toList==[111,110])=true)(_hl:((len:Int)==4)=false)(r:((len:Int) !=4)=true)(b:Hid (∀w1,aj w w1->am 64 #[.agg #[ab k,ab h,af s,ae xa j xc]] w1 λe w'=>e=.returned (.tuple #[af i,ae a len c])/\aj w1 w')):am 95 #[.agg #[ab k,ab h,af s,ae xa j xc]] w (jm M o w):=by
 go_enter func95,ntmps95;go_wp2_with fail;refine(b _ (by go_grown)).mono ?_;rintro e w1 ⟨rfl,d⟩;obtain⟨p,g,f,u⟩:=ey d;have l:=aq f;have m:=aq g;clear d p g f b;obtain⟨⟨d0,d1,d2,d3,d4,d5,d6,d7,d8,d9,d10,d11,d12⟩,f0,t⟩:=tY m;go_wp2_with fail;exact av (v:=.tuple #[.agg #[ab 0,ab 0,af .empty,ae none 0 0,ab 0,ab 0,af .empty,ae none 0 0,ae none 0 0,ab 0,ab 0,af .empty,ae none 0 0],.bool false]) (by simp[results,results95,go_sem,d0,d1,d2,d3,d4,d5,d6,d7,d8,d9,d10,d11,d12];rfl) rfl (lR n ((rk _ _ _ _ _ _ _ _ _ _ _ _ _ _ _).below l (by omega)))
theorem tL(M _n:Nat)(k l:Int)(s:ByteArray)(xa:Option Addr)(n xc:Nat)(m:ByteArray)(a po c:Nat)(w:World)(o:Option (Cl (M+1)))(q:Hid (o=none))(u:(m.toList==[111,110])=true)(r:a<w.heap.size)(j:Int)(f:w.cell? ⟨a,po+8,none⟩=some (ab j))(x:(j !=4)=true)(d:Hid (∀w1,aj w w1->am 64 #[.agg #[ab k,ab l,af s,ae xa n xc]] w1 λe w'=>e=.returned (.tuple #[af m,ae (some ⟨a,po,none⟩) 4 c])/\aj w1 w')):am 95 #[.agg #[ab k,ab l,af s,ae xa n xc]] w (jm M o w):=by
 go_enter func95,ntmps95;go_wp2_with fail;refine(d _ (by go_grown)).mono ?_;rintro e w1 ⟨rfl,g⟩;obtain⟨t,i,h,A⟩:=ey g;have b:=aq h;have p:=aq i;clear g t i h d;replace f:=(ar b _ _ r).trans f;have y:a<w1.heap.size:=by omega
 obtain⟨⟨d0,d1,d2,d3,d4,d5,d6,d7,d8,d9,d10,d11,d12⟩,f0,z⟩:=tY p;go_wp2_with fail;exact av (v:=.tuple #[.agg #[ab 0,ab 0,af .empty,ae none 0 0,ab 0,ab 0,af .empty,ae none 0 0,ae none 0 0,ab 0,ab 0,af .empty,ae none 0 0],.bool false]) (by simp[results,results95,go_sem,d0,d1,d2,d3,d4,d5,d6,d7,d8,d9,d10,d11,d12];rfl) rfl (lR q ((rk _ _ _ _ _ _ _ _ _ _ _ _ _ _ _).below b (by omega)))
theorem Nh{n g a po:Nat}{w w':World}{y x t:Tm (n+1)}(d:a<g)(c:bL g w w')(k:(w.cell? ⟨a,po,none⟩=some (ab y.1.1)/\w.cell? ⟨a,po+1,none⟩=some (ab y.1.2.1)/\w.cell? ⟨a,po+2,none⟩=some (af y.1.2.2)/\w.cell? ⟨a,po+3,none⟩=some (ae y.2.1.1 y.2.2.length y.2.1.2))/\(w.cell? ⟨a,po+4,none⟩=some (ab x.1.1)/\w.cell? ⟨a,po+5,none⟩=some (ab x.1.2.1)/\w.cell? ⟨a,po+6,none⟩=some (af x.1.2.2)/\w.cell? ⟨a,po+7,none⟩=some (ae x.2.1.1 x.2.2.length x.2.1.2))/\(w.cell? ⟨a,po+12,none⟩=some (ab t.1.1)/\w.cell? ⟨a,po+13,none⟩=some (ab t.1.2.1)/\w.cell? ⟨a,po+14,none⟩=some (af t.1.2.2)/\w.cell? ⟨a,po+15,none⟩=some (ae t.2.1.1 t.2.2.length t.2.1.2))):(w'.cell? ⟨a,po,none⟩=some (ab y.1.1)/\w'.cell? ⟨a,po+1,none⟩=some (ab y.1.2.1)/\w'.cell? ⟨a,po+2,none⟩=some (af y.1.2.2)/\w'.cell? ⟨a,po+3,none⟩=some (ae y.2.1.1 y.2.2.length y.2.1.2))/\(w'.cell? ⟨a,po+4,none⟩=some (ab x.1.1)/\w'.cell? ⟨a,po+5,none⟩=some (ab x.1.2.1)/\w'.cell? ⟨a,po+6,none⟩=some (af x.1.2.2)/\w'.cell? ⟨a,po+7,none⟩=some (ae x.2.1.1 x.2.2.length x.2.1.2))/\(w'.cell? ⟨a,po+12,none⟩=some (ab t.1.1)/\w'.cell? ⟨a,po+13,none⟩=some (ab t.1.2.1)/\w'.cell? ⟨a,po+14,none⟩=some (af t.1.2.2)/\w'.cell? ⟨a,po+15,none⟩=some (ae t.2.1.1 t.2.2.length t.2.1.2)):=by
 have b:=λo=>fW c (show a≠g by omega) o;exact⟨⟨(b _).trans k.1.1,(b _).trans k.1.2.1,(b _).trans k.1.2.2.1,(b _).trans k.1.2.2.2⟩,⟨(b _).trans k.2.1.1,(b _).trans k.2.1.2.1,(b _).trans k.2.1.2.2.1,(b _).trans k.2.1.2.2.2⟩,(b _).trans k.2.2.1,(b _).trans k.2.2.2.1,(b _).trans k.2.2.2.2.1,(b _).trans k.2.2.2.2.2⟩
theorem tM(M n:Nat)(k aO:Int)(s:ByteArray)(xa:Option Addr)(aT xc:Nat)(aR:ByteArray)(d po c:Nat)(w:World)(y x m t:Tm (n+1))(ah:n+1<=M+1)(an:Option (List (Ac (M+1))))(o:Option (Cl (M+1)))(aH:Hid (o=an.map λl=>((aS (M+1) (n+1) y,aS (M+1) (n+1) x,aS (M+1) (n+1) t),(none,0),l)))(bh:(aR.toList==[111,110])=true)(h:d<w.heap.size)(Q:w.cell? ⟨d,po,none⟩=some (ab y.1.1))(R:w.cell? ⟨d,po+1,none⟩=some (ab y.1.2.1))(S:w.cell? ⟨d,po+2,none⟩=some (af y.1.2.2))(T:w.cell? ⟨d,po+3,none⟩=some (ae y.2.1.1 y.2.2.length y.2.1.2))(K:w.cell? ⟨d,po+4,none⟩=some (ab x.1.1))(L:w.cell? ⟨d,po+5,none⟩=some (ab x.1.2.1))(N:w.cell? ⟨d,po+6,none⟩=some (af x.1.2.2))(O:w.cell? ⟨d,po+7,none⟩=some (ae x.2.1.1 x.2.2.length x.2.1.2))(X:w.cell? ⟨d,po+8,none⟩=some (ab m.1.1))(ai:w.cell? ⟨d,po+9,none⟩=some (ab m.1.2.1))(ak:w.cell? ⟨d,po+10,none⟩=some (af m.1.2.2))(al:w.cell? ⟨d,po+11,none⟩=some (ae m.2.1.1 m.2.2.length m.2.1.2))(G:w.cell? ⟨d,po+12,none⟩=some (ab t.1.1))(H:w.cell? ⟨d,po+13,none⟩=some (ab t.1.2.1))(I:w.cell? ⟨d,po+14,none⟩=some (af t.1.2.2))(J:w.cell? ⟨d,po+15,none⟩=some (ae t.2.1.1 t.2.2.length t.2.1.2))(a6:m.1.1=4)(aB:Hid (∀w1,aj w w1->am 64 #[.agg #[ab k,ab aO,af s,ae xa aT xc]] w1 λe w'=>e=.returned (.tuple #[af aR,ae (some ⟨d,po,none⟩) 4 c])/\aj w1 w'))(au:Hid (∀w1,aj w w1->am 117 #[ae m.2.1.1 m.2.2.length m.2.1.2,.func (Fn.func 118) #[] #[]] w1 (lA 11 (fZ (M+1)) (iA (M+1)) (lT (M+1)) (CW (M+1)) an w1)))(aw:Hid (∀w1,aj w w1->am 24 #[.agg #[ab y.1.1,ab y.1.2.1,af y.1.2.2,ae y.2.1.1 y.2.2.length y.2.1.2]] w1 λe w'=>∃a:Tm (n+1),e=.returned (.agg #[ab a.1.1,ab a.1.2.1,af a.1.2.2,ae a.2.1.1 a.2.2.length a.2.1.2])/\Hid (aj w1 w'/\In w'.heap.size w' (n+1) a/\cd (λq=>w1.heap.size<=q) (n+1) a/\ay (n+1) a (n+1) y=true)))(ax:Hid (∀w1,aj w w1->am 24 #[.agg #[ab x.1.1,ab x.1.2.1,af x.1.2.2,ae x.2.1.1 x.2.2.length x.2.1.2]] w1 λe w'=>∃a:Tm (n+1),e=.returned (.agg #[ab a.1.1,ab a.1.2.1,af a.1.2.2,ae a.2.1.1 a.2.2.length a.2.1.2])/\Hid (aj w1 w'/\In w'.heap.size w' (n+1) a/\cd (λq=>w1.heap.size<=q) (n+1) a/\ay (n+1) a (n+1) x=true)))(az:Hid (∀w1,aj w w1->am 24 #[.agg #[ab t.1.1,ab t.1.2.1,af t.1.2.2,ae t.2.1.1 t.2.2.length t.2.1.2]] w1 λe w'=>∃a:Tm (n+1),e=.returned (.agg #[ab a.1.1,ab a.1.2.1,af a.1.2.2,ae a.2.1.1 a.2.2.length a.2.1.2])/\Hid (aj w1 w'/\In w'.heap.size w' (n+1) a/\cd (λq=>w1.heap.size<=q) (n+1) a/\ay (n+1) a (n+1) t=true))):am 95 #[.agg #[ab k,ab aO,af s,ae xa aT xc]] w (jm M o w):=by
 go_enter func95,ntmps95;go_wp2_with fail;refine(aB _ (by go_grown)).mono ?_;rintro e w1 ⟨rfl,aD⟩;obtain⟨ba,aL,aE,bm⟩:=ey aD;have f:=aq aE;have aC:=aq aL;clear aD ba aL aE aB;replace Q:=(ar f _ _ h).trans Q;replace R:=(ar f _ _ h).trans R;replace S:=(ar f _ _ h).trans S;replace T:=(ar f _ _ h).trans T;replace K:=(ar f _ _ h).trans K;replace L:=(ar f _ _ h).trans L;replace N:=(ar f _ _ h).trans N;replace O:=(ar f _ _ h).trans O;replace X:=(ar f _ _ h).trans X;replace ai:=(ar f _ _ h).trans ai;replace ak:=(ar f _ _ h).trans ak;replace al:=(ar f _ _ h).trans al;replace G:=(ar f _ _ h).trans G;replace H:=(ar f _ _ h).trans H;replace I:=(ar f _ _ h).trans I;replace J:=(ar f _ _ h).trans J;have a8:d<w1.heap.size:=by omega
 rw[a6]at X;go_wp2_with fail;refine(au _ f).mono ?_;rintro e u ⟨l,j,r,ao,rfl,aA⟩;have U:=aq aA.1;have z:Hid (aj w u):=f.trans (U.mono f.size);have aX:=aq ((U.block (w.heap.size+1) (by omega)).trans aC);have bi:w1.heap.size<=u.heap.size:=U.size;have a9:d<u.heap.size:=by omega
 have B:Hid (∀w',aj u w'->(w'.cell? ⟨d,po,none⟩=some (ab y.1.1)/\w'.cell? ⟨d,po+1,none⟩=some (ab y.1.2.1)/\w'.cell? ⟨d,po+2,none⟩=some (af y.1.2.2)/\w'.cell? ⟨d,po+3,none⟩=some (ae y.2.1.1 y.2.2.length y.2.1.2))/\(w'.cell? ⟨d,po+4,none⟩=some (ab x.1.1)/\w'.cell? ⟨d,po+5,none⟩=some (ab x.1.2.1)/\w'.cell? ⟨d,po+6,none⟩=some (af x.1.2.2)/\w'.cell? ⟨d,po+7,none⟩=some (ae x.2.1.1 x.2.2.length x.2.1.2))/\(w'.cell? ⟨d,po+12,none⟩=some (ab t.1.1)/\w'.cell? ⟨d,po+13,none⟩=some (ab t.1.2.1)/\w'.cell? ⟨d,po+14,none⟩=some (af t.1.2.2)/\w'.cell? ⟨d,po+15,none⟩=some (ae t.2.1.1 t.2.2.length t.2.1.2))):=λw' a0=>by
  have i:=λo=>(ar a0 d o a9).trans (ar U d o a8);exact⟨⟨(i _).trans Q,(i _).trans R,(i _).trans S,(i _).trans T⟩,⟨(i _).trans K,(i _).trans L,(i _).trans N,(i _).trans O⟩,(i _).trans G,(i _).trans H,(i _).trans I,(i _).trans J⟩
 obtain⟨W,ag⟩:∃W,l.length=W:=⟨_,rfl⟩;rw[ag];have aW:=aq ag;clear au aC Q R S T K L N O X ai ak al G H I J ag;obtain⟨⟨Q,R,S,T⟩,⟨K,L,N,O⟩,G,H,I,J⟩:=B.out u (ap _ _);go_wp2_with fail
 go_region_held3 (λw'=>(w'.cell? ⟨d,po,none⟩=some (ab y.1.1)/\w'.cell? ⟨d,po+1,none⟩=some (ab y.1.2.1)/\w'.cell? ⟨d,po+2,none⟩=some (af y.1.2.2)/\w'.cell? ⟨d,po+3,none⟩=some (ae y.2.1.1 y.2.2.length y.2.1.2))/\(w'.cell? ⟨d,po+4,none⟩=some (ab x.1.1)/\w'.cell? ⟨d,po+5,none⟩=some (ab x.1.2.1)/\w'.cell? ⟨d,po+6,none⟩=some (af x.1.2.2)/\w'.cell? ⟨d,po+7,none⟩=some (ae x.2.1.1 x.2.2.length x.2.1.2))/\(w'.cell? ⟨d,po+12,none⟩=some (ab t.1.1)/\w'.cell? ⟨d,po+13,none⟩=some (ab t.1.2.1)/\w'.cell? ⟨d,po+14,none⟩=some (af t.1.2.2)/\w'.cell? ⟨d,po+15,none⟩=some (ae t.2.1.1 t.2.2.length t.2.1.2))) (first|with_reducible assumption|with_reducible exact B.out _ A.out|with_reducible exact B.out _ F.out|with_reducible exact B.out _ E.out|with_reducible exact aV.out _ (rk _ _ _ _ _ _ _ _ _ _ _ _ _ _ _)|exact B.out _ (ap _ _).drew)
  ((first
   | (go_at_call 24;refine(aw _ z.drew).mono ?_;rintro e aP ⟨a,rfl,V⟩;have E:=aq (cH V.1);clear aw)
   | (go_at_call 24;refine(ax _ (z.trans (E.mono z.size))).mono ?_;rintro e aQ ⟨q,rfl,C⟩;have F:=aq (E.trans (C.1.mono E.size));clear ax)
   | (go_at_call 24;refine(az _ (z.trans (F.mono z.size))).mono ?_;rintro e p ⟨g,rfl,D⟩;have A:=aq (F.trans (D.1.mono F.size));clear az;have aY:=aq ((A.block (w.heap.size+1) (by omega)).trans aX);obtain⟨⟨d0,d1,d2,d3,d4,d5,d6,d7,d8,d9,d10,d11,d12⟩,f0,bl⟩:=tY aY;have aV:=aq (λaZ (a3:bL (w.heap.size+1) p aZ)=>Nh (y:=y) (x:=x) (t:=t) (show d<w.heap.size+1 by omega) a3 (B _ A)))))
 go_wp2_with fail;have aU:Hid (aj w p):=z.trans (A.mono z.size);have bj:u.heap.size<=aP.heap.size:=E.size;have bk:u.heap.size<=aQ.heap.size:=F.size;have aK:=D.1;have aJ:=C.1.trans (D.1.mono C.1.size);have Y:=iO (M:=M) ah ((V.2.1.below aJ).mono aJ.size) (V.2.2.1.mono λq (aI:u.heap.size<=q)=>(show w.heap.size+1<q by omega)) V.2.2.2;have Z:=iO (M:=M) ah ((C.2.1.below aK).mono aK.size) (C.2.2.1.mono λq (aI:aP.heap.size<=q)=>(show w.heap.size+1<q by omega)) C.2.2.2;have aa:=iO (M:=M) ah D.2.1 (D.2.2.1.mono λq (aI:aQ.heap.size<=q)=>(show w.heap.size+1<q by omega)) D.2.2.2;refine av (v:=.tuple #[.agg #[ab a.1.1,ab a.1.2.1,af a.1.2.2,ae a.2.1.1 a.2.2.length a.2.1.2,ab q.1.1,ab q.1.2.1,af q.1.2.2,ae q.2.1.1 q.2.2.length q.2.1.2,ae j W r,ab g.1.1,ab g.1.2.1,af g.1.2.2,ae g.2.1.1 g.2.2.length g.2.1.2],.bool ao]) (by simp[results,results95,go_sem,d0,d1,d2,d3,d4,d5,d6,d7,d8,d9,d10,d11,d12]) rfl ?_;have e:eZ (M+1) ((aS (M+1) (n+1) a,aS (M+1) (n+1) q,aS (M+1) (n+1) g),(j,r),l)=[ab a.1.1,ab a.1.2.1,af a.1.2.2,ae a.2.1.1 a.2.2.length a.2.1.2,ab q.1.1,ab q.1.2.1,af q.1.2.2,ae q.2.1.1 q.2.2.length q.2.1.2,ae j W r,ab g.1.1,ab g.1.2.1,af g.1.2.2,ae g.2.1.1 g.2.2.length g.2.1.2]:=by
  show il (M+1) (aS (M+1) (n+1) a)++il (M+1) (aS (M+1) (n+1) q)++(ae j l.length r::il (M+1) (aS (M+1) (n+1) g))=_;rw[gm,gm,gm,aW.out];rfl
 have aN:∀w',bL (w.heap.size+1) p w'->jm M o w (.returned (.tuple #[.agg (eZ (M+1) ((aS (M+1) (n+1) a,aS (M+1) (n+1) q,aS (M+1) (n+1) g),(j,r),l)).toArray,.bool ao])) w':=λw' aG=>by
  obtain⟨bn,bb,bc,bd,be,bf⟩:=aA;have ad:=cq (fD (M+1)) 11 (fZ (M+1)) j;have a4:pY p.heap.size p 11 (fZ (M+1)) (iA (M+1) p.heap.size p) j l:=ad.mono A.size (ad.below A bd);have a7:tD (lT (M+1) (λb=>w.heap.size+1<b)) (λb=>w.heap.size+1<b) j l:=ad.1 _ _ _ (λb (a1:w1.heap.size<=b)=>(show w.heap.size+1<b by omega)) be;have a2:gY (M+1) p.heap.size p ((aS (M+1) (n+1) a,aS (M+1) (n+1) q,aS (M+1) (n+1) g),(j,r),l):=⟨⟨Y.1,Z.1,aa.1⟩,bc,a4⟩;have aF:jR (M+1) (λb=>w.heap.size+1<b) ((aS (M+1) (n+1) a,aS (M+1) (n+1) q,aS (M+1) (n+1) g),(j,r),l):=⟨⟨Y.2.1,Z.2.1,aa.2.1⟩,a7⟩;refine⟨((aS (M+1) (n+1) a,aS (M+1) (n+1) q,aS (M+1) (n+1) g),(j,r),l),ao,rfl,aG.below aU (by omega),?_,aG.stays (en _) (P:=λb=>w.heap.size+1<b) (by omega) aF a2,(en _).1 _ _ _ (λb (a1:w.heap.size+1<b)=>(show w.heap.size<=b by omega)) aF,λbo aM=>?_⟩
  ·rw[bb,aH.out];cases an<;>rfl
  ·rw[aH.out]at aM;obtain⟨bg,a5,rfl⟩:=ci.1 aM;exact⟨⟨Y.2.2,Z.2.2,aa.2.2⟩,bf bg a5⟩
 rw[e]at aN;exact aN _ (rk _ _ _ _ _ _ _ _ _ _ _ _ _ _ _)
theorem vN(M n:Nat)(ao:n<=M+1)(x:Tm n)(B:Nat)(w:World)(K:In B w n x)(Y:aD ⟨n,x⟩)(g:B<=w.heap.size):am 95 #[df n x] w (jm M (zN M n x) w):=by
 cases n with
 | zero=>exact K.elim
 | succ n=>
 obtain⟨G,c,i,an,al,m⟩:=rD n x B w K g;show am 95 #[.agg #[ab x.1.1,ab x.1.2.1,af x.1.2.2,ae x.2.1.1 x.2.2.length x.2.1.2]] w (jm M (sH M n (e9 n x) (bQ n x)) w);have r:∀e∈bQ n x,aD ⟨n,e⟩:=λe j=>eu Y j;generalize e9 n x=b at*;generalize bQ n x=d at*;have F:s8 b LW=(b.toList==[111,110]):=nt b [111,110];have get:∀k,k<d.length->∃e,d[k]?=some e:=λk v=>⟨d[k],aG v⟩;by_cases f:(b.toList==[111,110])=true
 ·by_cases q:d.length=4
  ·obtain⟨e,j⟩:=get 0 (by omega);obtain⟨u,D⟩:=get 1 (by omega);obtain⟨a,y⟩:=get 2 (by omega);obtain⟨t,C⟩:=get 3 (by omega);have h:sH M n b d=if bU ⟨n,a⟩=4 then (cG (sG M (n-1)) (ES n a)).map λl=>((aS (M+1) n e,aS (M+1) n u,aS (M+1) n t),(none,0),l)else none:=by
    unfold sH;rw[if_pos (by rw[F,f,q];rfl),j,D,y,C];rfl
   rw[q]at m;obtain⟨N,po,rfl⟩:=rn i (by omega);cases n with
   | zero=>exact(rX i j).elim
   | succ n=>
   obtain⟨⟨O,P,Q,R⟩,aa,ap⟩:=ii i j;obtain⟨⟨d0,d1,d2,d3⟩,ad,_⟩:=ii i D;obtain⟨⟨L,ag,ah,ai⟩,I,_⟩:=ii i y;obtain⟨⟨S,T,U,V⟩,Z,_⟩:=ii i C;by_cases o:a.1.1=4
   ·have A:sH M (n+1) b d=(cG (sG M n) a.2.2).map λl=>((aS (M+1) (n+1) e,aS (M+1) (n+1) u,aS (M+1) (n+1) t),(none,0),l):=by
      rw[h,if_pos (show bU ⟨n+1,a⟩=4 from o)];rfl
    have J:=r a (aH y);have X:a.2.2.length<=8:=by
     exact mB J o
    exact tM M n _ _ _ _ _ _ b N po c w e u a t (by omega) (cG (sG M n) a.2.2) _ A f (by omega) (by simpa using O) (by simpa using P) (by simpa using Q) (by simpa using R) (by simpa using d0) (by simpa using d1) (by simpa using d2) (by simpa using d3) (by simpa using L) (by simpa using ag) (by simpa using ah) (by simpa using ai) (by simpa using S) (by simpa using T) (by simpa using U) (by simpa using V) o m
     (λaj p=>zU M n a.2.2 a.2.2.length rfl X a.2.1.1 a.2.1.2 B aj ((show fC B w n a.2.2 a.2.1.1 from I.2).below (p.mono g)) (az g p.size) (λE s ak W=>by
      have H:=p.trans (W.mono p.size);obtain⟨k,v⟩:=cM s;rcases I.2 with z|⟨_,_,_,_,z⟩
      ·rw[z]at s;cases s
      ·exact B8 M n (by omega) E B ak ((z k E v).2.below (H.mono g)) (aU n a E J s) (az g H.size)))
     (mg aa (r e (aH j)) g) (mg ad (r u (aH D)) g) (mg Z (r t (aH C)) g)
   ·have A:sH M (n+1) b d=none:=by rw[h,if_neg (show¬bU ⟨n+1,a⟩=4 from o)]
    exact tL M n _ _ _ _ _ _ b N po c w _ A f (by omega) a.1.1 (by simpa using L) (by simpa using o) m
  ·have h:sH M n b d=none:=by simp[sH,q]
   exact vO M n _ _ _ _ _ _ b G d.length c w _ h f (vu q) (by simp;omega) m
 replace f:=oK f;have h:sH M n b d=none:=by simp[sH,F,f]
 exact tN M n _ _ _ _ _ _ b G d.length c w _ h f m
abbrev pJ(M:Nat)(o:Option (Bh (M+1)))(w:World)(e:Ending)(w':World):Prop:=qN (oI (M+1)) (pC (M+1)) (jQ (M+1)) (yN (M+1)) o w e w'
theorem xR{n:Nat}{x:Tm (n+1)}(b:aD ⟨n+1,x⟩):(bQ n x).length<=8:=by
 unfold bQ;split
 ·rename_i a;have:=mB b a;split
  ·split
   ·rw[eX];omega
   ·simp
  ·simp
 ·simp
theorem Kz{n:Nat}{a:Tm (n+1)}(d:aD ⟨n+1,a⟩)(b:a.1.1=2):a.1.2.2.size<=2048:=by
 have:=d (bw n a) (by simp[ax,bw]);have c:dF a.1.2.2=true:=by
  simp only[cg,bw,b]at this;simp at this;exact this.1.1
 simp only[dF,oe,aA,bO]at c;omega
theorem BA{n B:Nat}{w:World}{q:List (Tm n)}{a:Option Addr}(b:fC B w n q a){y:Tm n}(c:y∈q):In B w n y:=by
 rcases b with b|⟨_,_,_,_,b⟩
 ·subst b;cases c
 ·obtain⟨e,d⟩:=cM c;exact(b e y d).2
theorem qt{M:Nat}{o:Option (Bh (M+1))}{w w':World}(b:o=none)(a:aj w w'):pJ M o w (.returned (.tuple #[.agg #[af .empty,ae none 0 0],.bool false])) w':=by
 subst b;exact⟨(.empty,(none,0),[]),false,rfl,a,rfl,⟨aI _,⟨ak _,aI _⟩,ah rfl⟩,ah rfl,λd c=>by cases c⟩
theorem zX(M _n:Nat)(k i:Int)(s:ByteArray)(xa:Option Addr)(l xc:Nat)(j:ByteArray)(a:Option Addr)(len c:Nat)(w:World)(o:Option (Bh (M+1)))(n:Hid (o=none))(r:(j.toList==[98,101,104])=false)(d:Hid (∀w1,aj w w1->am 64 #[.agg #[ab k,ab i,af s,ae xa l xc]] w1 λe w'=>e=.returned (.tuple #[af j,ae a len c])/\aj w1 w')):am 66 #[.agg #[ab k,ab i,af s,ae xa l xc]] w (pJ M o w):=by
 go_enter func66,ntmps66;go_wp2_with fail;refine(d _ (by go_grown)).mono ?_;rintro e w1 ⟨rfl,f⟩;obtain⟨p,h,g,u⟩:=ey f;have m:=aq g;have b:=aq h;clear f p h g d;have d0:w1.cell? ⟨w.heap.size+1,0,none⟩=some (af ⟨#[]⟩):=au b 0;have d1:w1.cell? ⟨w.heap.size+1,1,none⟩=some (ae none 0 0):=au b 1;have f0:=λq=>cQ b q;have t:w.heap.size+1<w1.heap.size:=(aF.1 b).1;go_wp2_with fail;exact av (v:=.tuple #[.agg #[af .empty,ae none 0 0],.bool false]) (by simp[results,results66,go_sem,d0,d1];rfl) rfl (qt n ((bL.set (bL.set (bL.refl _ _) _ _) _ _).below m (by omega)))
theorem Ca(M _n:Nat)(k i:Int)(s:ByteArray)(xa:Option Addr)(l xc:Nat)(j:ByteArray)(a:Option Addr)(len c:Nat)(w:World)(o:Option (Bh (M+1)))(n:Hid (o=none))(r:(j.toList==[98,101,104])=true)(t:(len:Int)<1)(d:Hid (∀w1,aj w w1->am 64 #[.agg #[ab k,ab i,af s,ae xa l xc]] w1 λe w'=>e=.returned (.tuple #[af j,ae a len c])/\aj w1 w')):am 66 #[.agg #[ab k,ab i,af s,ae xa l xc]] w (pJ M o w):=by
 go_enter func66,ntmps66;go_wp2_with fail;refine(d _ (by go_grown)).mono ?_;rintro e w1 ⟨rfl,f⟩;obtain⟨p,h,g,x⟩:=ey f;have m:=aq g;have b:=aq h;clear f p h g d;have d0:w1.cell? ⟨w.heap.size+1,0,none⟩=some (af ⟨#[]⟩):=au b 0;have d1:w1.cell? ⟨w.heap.size+1,1,none⟩=some (ae none 0 0):=au b 1;have f0:=λq=>cQ b q;have u:w.heap.size+1<w1.heap.size:=(aF.1 b).1;go_wp2_with fail;exact av (v:=.tuple #[.agg #[af .empty,ae none 0 0],.bool false]) (by simp[results,results66,go_sem,d0,d1];rfl) rfl (qt n ((bL.set (bL.set (bL.refl _ _) _ _) _ _).below m (by omega)))
theorem zV(M _n:Nat)(k m:Int)(s:ByteArray)(xa:Option Addr)(p xc:Nat)(n:ByteArray)(b po len c:Nat)(w:World)(o:Option (Bh (M+1)))(q:Hid (o=none))(x:(n.toList==[98,101,104])=true)(z:¬(len:Int)<1)(A:(0:Int)<(len:Int))(r:b<w.heap.size)(l:Int)(g:w.cell? ⟨b,po,none⟩=some (ab l))(y:(l !=2)=true)(f:Hid (∀w1,aj w w1->am 64 #[.agg #[ab k,ab m,af s,ae xa p xc]] w1 λe w'=>e=.returned (.tuple #[af n,ae (some ⟨b,po,none⟩) len c])/\aj w1 w')):am 66 #[.agg #[ab k,ab m,af s,ae xa p xc]] w (pJ M o w):=by
 go_enter func66,ntmps66;go_wp2_with fail;refine(f _ (by go_grown)).mono ?_;rintro e w1 ⟨rfl,h⟩;obtain⟨t,j,i,D⟩:=ey h;have d:=aq i;have a:=aq j;clear h t j i f;replace g:=(ar d _ _ r).trans g;have B:b<w1.heap.size:=by omega
 have d0:w1.cell? ⟨w.heap.size+1,0,none⟩=some (af ⟨#[]⟩):=au a 0;have d1:w1.cell? ⟨w.heap.size+1,1,none⟩=some (ae none 0 0):=au a 1;have f0:=λu=>cQ a u;have C:w.heap.size+1<w1.heap.size:=(aF.1 a).1;go_wp2_with fail;exact av (v:=.tuple #[.agg #[af .empty,ae none 0 0],.bool false]) (by simp[results,results66,go_sem,d0,d1];rfl) rfl (qt q ((bL.set (bL.set (bL.refl _ _) _ _) _ _).below d (by omega)))
theorem Cb(M _n:Nat)(k Q:Int)(s:ByteArray)(xa:Option Addr)(S xc:Nat)(R:ByteArray)(d po:Nat)(w:World)(y2:ByteArray)(ad:y2.size<=2048)(t:Option (List (Cl (M+1))))(o:Option (Bh (M+1)))(J:Hid (o=t.map λl=>(y2,(none,0),l)))(aw:(R.toList==[98,101,104])=true)(K:d<w.heap.size)(m:w.cell? ⟨d,po,none⟩=some (ab 2))(n:w.cell? ⟨d,po+2,none⟩=some (af y2))(C:Hid (∀w1,aj w w1->am 64 #[.agg #[ab k,ab Q,af s,ae xa S xc]] w1 λe w'=>e=.returned (.tuple #[af R,ae (some ⟨d,po,none⟩) 1 1])/\aj w1 w'))(y:Hid (∀w1,aj w w1->am 94 #[ae (some ⟨d,po,none⟩) 0 0,.func (Fn.func 95) #[] #[]] w1 (lA 13 (eZ (M+1)) (gY (M+1)) (jR (M+1)) (CS (M+1)) t w1))):am 66 #[.agg #[ab k,ab Q,af s,ae xa S xc]] w (pJ M o w):=by
 go_enter func66,ntmps66;go_wp2_with fail;refine(C _ (by go_grown)).mono ?_;rintro e w1 ⟨rfl,F⟩;obtain⟨aa,N,G,aA⟩:=ey F;have f:=aq G;have D:=aq N;clear F aa N G C;replace m:=(ar f _ _ K).trans m;replace n:=(ar f _ _ K).trans n;have L:d<w1.heap.size:=by omega
 go_wp2_with fail;refine(y _ f).mono ?_;rintro e x ⟨l,c,i,u,rfl,B⟩;have g:=aq B.1;have z:Hid (aj w x):=f.trans (g.mono f.size);have E:=aq ((g.block (w.heap.size+1) (by omega)).trans D);have ax:w1.heap.size<=x.heap.size:=g.size;have ay:d<x.heap.size:=by omega
 replace m:=(ar g _ _ L).trans m;replace n:=(ar g _ _ L).trans n;obtain⟨j,r⟩:∃j,l.length=j:=⟨_,rfl⟩;rw[r];have U:=aq r;clear y D r;go_wp2_with fail;refine(dR _ _ ad).mono ?_;rintro e a ⟨rfl,p⟩;have A:=aq p;have T:Hid (aj w a):=z.trans (p.mono z.size);have h:=aq ((p.block (w.heap.size+1) (by omega)).trans E);have d0:a.cell? ⟨w.heap.size+1,0,none⟩=some (af ⟨#[]⟩):=au h 0;have d1:a.cell? ⟨w.heap.size+1,1,none⟩=some (ae none 0 0):=au h 1;have f0:=λag=>cQ h ag;have az:w.heap.size+1<a.heap.size:=(aF.1 h).1;clear p E h;go_wp2_with fail;refine av (v:=.tuple #[.agg #[af y2,ae c j i],.bool u]) (by simp[results,results66,go_sem,d0,d1]) rfl ?_;have ao:∀w',bL (w.heap.size+1) a w'->pJ M o w (.returned (.tuple #[.agg #[af y2,ae c j i],.bool u])) w':=λw' I=>by
  obtain⟨aB,ah,ai,ak,al,an⟩:=B;have q:=cq (en (M+1)) 13 (eZ (M+1)) c;have X:pY a.heap.size a 13 (eZ (M+1)) (gY (M+1) a.heap.size a) c l:=q.mono A.size (q.below A ak);have Z:tD (jR (M+1) (λb=>w.heap.size+1<b)) (λb=>w.heap.size+1<b) c l:=q.1 _ _ _ (λb (V:w1.heap.size<=b)=>(show w.heap.size+1<b by omega)) al;have W:pC (M+1) a.heap.size a (y2,(c,i),l):=⟨(show y2.size<=maxLen by unfold maxLen;omega),ai,X⟩;have H:jQ (M+1) (λb=>w.heap.size+1<b) (y2,(c,i),l):=Z;refine⟨(y2,(c,i),l),u,by rw[<-U.out];rfl,I.below T (by omega),?_,I.stays (dP _) (P:=λb=>w.heap.size+1<b) (by omega) H W,(dP _).1 _ _ _ (λb (V:w.heap.size+1<b)=>(show w.heap.size<=b by omega)) H,λaC O=>?_⟩
  ·rw[ah,J.out];cases t<;>rfl
  ·rw[J.out]at O;obtain⟨ap,Y,rfl⟩:=ci.1 O;exact⟨rfl,an ap Y⟩
 exact ao _ (bL.set (bL.set (bL.refl _ _) _ _) _ _)
theorem zW(M _n:Nat)(k T:Int)(s:ByteArray)(xa:Option Addr)(V xc:Nat)(U:ByteArray)(f po L c:Nat)(w:World)(y2:ByteArray)(ah:y2.size<=2048)(u:Option (List (Cl (M+1))))(o:Option (Bh (M+1)))(N:Hid (o=u.map λl=>(y2,(none,0),l)))(ay:(U.toList==[98,101,104])=true)(O:f<w.heap.size)(_hl:¬(L:Int)<1)(K:(0:Int)<(L:Int))(aB:(1:Int)<=(L:Int))(_hlc:(L:Int)<=(c:Int))(aA:¬c=1)(_hcm:(c:Int)<=9223372036854775807)(n:w.cell? ⟨f,po,none⟩=some (ab 2))(p:w.cell? ⟨f,po+2,none⟩=some (af y2))(D:Hid (∀w1,aj w w1->am 64 #[.agg #[ab k,ab T,af s,ae xa V xc]] w1 λe w'=>e=.returned (.tuple #[af U,ae (some ⟨f,po,none⟩) L c])/\aj w1 w'))(z:Hid (∀w1,aj w w1->am 94 #[ae (some ⟨f,po+4,none⟩) (L-1) (c-1),.func (Fn.func 95) #[] #[]] w1 (lA 13 (eZ (M+1)) (gY (M+1)) (jR (M+1)) (CS (M+1)) u w1))):am 66 #[.agg #[ab k,ab T,af s,ae xa V xc]] w (pJ M o w):=by
 go_enter func66,ntmps66;go_wp2_with fail;refine(D _ (by go_grown)).mono ?_;rintro e w1 ⟨rfl,G⟩;obtain⟨ag,R,H,aE⟩:=ey G;have g:=aq H;have E:=aq R;clear G ag R H D;replace n:=(ar g _ _ O).trans n;replace p:=(ar g _ _ O).trans p;have Q:f<w1.heap.size:=by omega
 go_wp2_with fail;refine(z _ g).mono ?_;rintro e y ⟨l,d,j,x,rfl,C⟩;have h:=aq C.1;have A:Hid (aj w y):=g.trans (h.mono g.size);have F:=aq ((h.block (w.heap.size+1) (by omega)).trans E);have az:w1.heap.size<=y.heap.size:=h.size;have aC:f<y.heap.size:=by omega
 replace n:=(ar h _ _ Q).trans n;replace p:=(ar h _ _ Q).trans p;obtain⟨m,t⟩:∃m,l.length=m:=⟨_,rfl⟩;rw[t];have X:=aq t;clear z E t;go_wp2_with fail;refine(dR _ _ ah).mono ?_;rintro e a ⟨rfl,q⟩;have B:=aq q;have W:Hid (aj w a):=A.trans (q.mono A.size);have i:=aq ((q.block (w.heap.size+1) (by omega)).trans F);have d0:a.cell? ⟨w.heap.size+1,0,none⟩=some (af ⟨#[]⟩):=au i 0;have d1:a.cell? ⟨w.heap.size+1,1,none⟩=some (ae none 0 0):=au i 1;have f0:=λai=>cQ i ai;have aD:w.heap.size+1<a.heap.size:=(aF.1 i).1;clear q F i;go_wp2_with fail;refine av (v:=.tuple #[.agg #[af y2,ae d m j],.bool x]) (by simp[results,results66,go_sem,d0,d1]) rfl ?_;have aw:∀w',bL (w.heap.size+1) a w'->pJ M o w (.returned (.tuple #[.agg #[af y2,ae d m j],.bool x])) w':=λw' J=>by
  obtain⟨aG,ak,al,an,ao,ap⟩:=C;have r:=cq (en (M+1)) 13 (eZ (M+1)) d;have aa:pY a.heap.size a 13 (eZ (M+1)) (gY (M+1) a.heap.size a) d l:=r.mono B.size (r.below B an);have ad:tD (jR (M+1) (λb=>w.heap.size+1<b)) (λb=>w.heap.size+1<b) d l:=r.1 _ _ _ (λb (Y:w1.heap.size<=b)=>(show w.heap.size+1<b by omega)) ao;have Z:pC (M+1) a.heap.size a (y2,(d,j),l):=⟨(show y2.size<=maxLen by unfold maxLen;omega),al,aa⟩;have I:jQ (M+1) (λb=>w.heap.size+1<b) (y2,(d,j),l):=ad;refine⟨(y2,(d,j),l),x,by rw[<-X.out];rfl,J.below W (by omega),?_,J.stays (dP _) (P:=λb=>w.heap.size+1<b) (by omega) I Z,(dP _).1 _ _ _ (λb (Y:w.heap.size+1<b)=>(show w.heap.size<=b by omega)) I,λaH S=>?_⟩
  ·rw[ak,N.out];cases u<;>rfl
  ·rw[N.out]at S;obtain⟨ax,K,rfl⟩:=ci.1 S;exact⟨rfl,ap ax K⟩
 exact aw _ (bL.set (bL.set (bL.refl _ _) _ _) _ _)
theorem B9(M n:Nat)(Z:n<=M+1)(x:Tm n)(B:Nat)(w:World)(K:In B w n x)(H:aD ⟨n,x⟩)(p:B<=w.heap.size):am 66 #[df n x] w (pJ M (zM M n x) w):=by
 cases n with
 | zero=>exact K.elim
 | succ n=>
 obtain⟨D,c,h,S,Y,k⟩:=rD n x B w K p;show am 66 #[.agg #[ab x.1.1,ab x.1.2.1,af x.1.2.2,ae x.2.1.1 x.2.2.length x.2.1.2]] w (pJ M (tK M n (e9 n x) (bQ n x)) w);have I:∀d∈bQ n x,aD ⟨n,d⟩:=λd U=>eu H U;have R:(bQ n x).length<=8:=xR H;generalize e9 n x=e at*;generalize bQ n x=a at*;have A:s8 e tV=(e.toList==[98,101,104]):=nt e [98,101,104];by_cases f:(e.toList==[98,101,104])=true
 ·cases a with
  | nil=>
   have g:tK M n e []=none:=by simp[tK]
   exact Ca M n _ _ _ _ _ _ e D 0 c w _ g f (by omega) k
  | cons d a=>
   obtain⟨q,po,rfl⟩:=rn h (by simp);cases n with
   | zero=>exact(rX h (show (d::a)[0]?=some d from rfl)).elim
   | succ n=>
   obtain⟨⟨m,W,E,X⟩,ad,aa⟩:=ii h (show (d::a)[0]?=some d from rfl);by_cases i:d.1.1=2
   ·have g:tK M (n+1) e (d::a)=(cG (zN M (n+1)) a).map λl=>(d.1.2.2,(none,0),l):=by
      simp[tK,A,f,bU,i,xH,gg,bw]
    have J:d.1.2.2.size<=2048:=Kz (I d (by simp)) i;have G:fC B w (n+1) a (some ⟨q,po+4,none⟩):=by
     rcases h with h|⟨b,o,v,t,h⟩
     ·cases h
     ·injection v with v;injection v with O P;subst O P
      exact ai ⟨q,po+4,rfl,t,λz j y=>by
       have:=h (z+1) j (by simpa using y);rw[show po+4+z*4=po+(z+1)*4 by omega]
       exact this⟩
    have C:∀(j:Option Addr)(u:Nat),fC B w (n+1) a j->∀r,aj w r->am 94 #[ae j a.length u,.func (Fn.func 95) #[] #[]] r (lA 13 (eZ (M+1)) (gY (M+1)) (jR (M+1)) (CS (M+1)) (cG (zN M (n+1)) a) r):=λj u y r s=>
     tO M (n+1) a a.length rfl (by simp at R;omega) j u B r (y.below (s.mono p)) (az p s.size) (λN L V Q=>by
      have t:=s.trans (Q.mono s.size)
      exact vN M (n+1) (by omega) N B V ((BA G L).below (t.mono p)) (I N (by simp[L])) (az p t.size))
    by_cases F:c=1
    ·have T:a=[]:=bF (by simp at S;omega);subst T F;exact Cb M (n+1) _ _ _ _ _ _ e q po w d.1.2.2 J _ _ g f (by omega) (by rw[i]at m;simpa using m) (by simpa using E) k (C _ 0 (ah rfl))
    ·exact zW M (n+1) _ _ _ _ _ _ e q po (d::a).length c w d.1.2.2 J _ _ g f (by omega) (by simp only[bf];omega) (by simp only[bf];omega) (by simp only[bf];omega) (by omega) F (by omega) (by rw[i]at m;simpa using m) (by simpa using E) k (C _ (c-1) G)
   ·have g:tK M (n+1) e (d::a)=none:=by simp[tK,bU,i]
    exact zV M (n+1) _ _ _ _ _ _ e q po (d::a).length c w _ g f (by simp only[bf];omega) (by simp only[bf];omega) (by omega) d.1.1 (by simpa using m) (by simpa using i) k
 replace f:=oK f;have g:tK M n e a=none:=by simp[tK,A,f]
 exact zX M n _ _ _ _ _ _ e D a.length c w _ g f k
abbrev uv(M:Nat)(o:Option (List (Bh (M+1))))(w:World)(e:Ending)(w':World):Prop:=lA 2 (oI (M+1)) (pC (M+1)) (jQ (M+1)) (yN (M+1)) o w e w'
theorem B6{M:Nat}{o:Option (List (Bh (M+1)))}{w w':World}(b:o=none)(a:aj w w'):uv M o w (.returned (.tuple #[ae none 0 0,.bool false])) w':=by
 subst b;exact⟨[],none,0,false,rfl,a,rfl,⟨ak _,aI _⟩,ah rfl,ah rfl,λd c=>by cases c⟩
theorem wN(M _n:Nat)(k r:Int)(s:ByteArray)(xa:Option Addr)(u xc:Nat)(t:ByteArray)(a:Option Addr)(len c:Nat)(w:World)(o:Option (List (Bh (M+1))))(b:Bool)(H:(t.toList==[99,111,100,101])=b)(p:Hid (b=false->o=none))(m:Hid (∀w1,aj w w1->am 64 #[.agg #[ab k,ab r,af s,ae xa u xc]] w1 λe w'=>e=.returned (.tuple #[af t,ae a len c])/\aj w1 w'))(j:Hid (b=true->∀w1,aj w w1->am 65 #[ae a len c,.func (Fn.func 66) #[] #[]] w1 (uv M o w1))):am 30 #[.agg #[ab k,ab r,af s,ae xa u xc]] w (uv M o w):=by
 cases b
 ·have HB:Hid (o=none):=p rfl;go_enter func30,ntmps30;go_wp2_with fail;refine(m _ (by go_grown)).mono ?_;rintro e w1 ⟨rfl,f⟩;have d:Hid (aj w w1):=aN.trans (f.mono (by simp));clear f;go_wp2_with fail;exact av (v:=.tuple #[ae none 0 0,.bool false]) (by simp[results,results30,go_sem]) rfl (B6 HB d)
 ·have x:=aq (j rfl);clear j p;go_enter func30,ntmps30;go_wp2_with fail;refine(m _ (by go_grown)).mono ?_;rintro e w1 ⟨rfl,f⟩;have d:Hid (aj w w1):=aN.trans (f.mono (by simp));clear f;go_wp2_with fail;refine(x _ d).mono ?_;rintro e I ⟨l,h,n,q,rfl,y⟩;obtain⟨g,i⟩:∃g,l.length=g:=⟨_,rfl⟩;rw[i];have z:=aq i;clear i;go_wp2_with fail;refine av (v:=.tuple #[ae h g n,.bool q]) (by simp[results,results30,go_sem]) rfl ?_;obtain⟨B,C,D,E,F,G⟩:=y;exact⟨l,h,n,q,by rw[z.out],d.trans (B.mono d.size),C,D,E,(cq (dP _) 2 (oI (M+1)) h).1 _ _ _ (λb A=>az d.size A) F,G⟩
theorem zY(M n:Nat)(A:n<=M+1)(x:Tm n)(B:Nat)(w:World)(j:In B w n x)(i:aD ⟨n,x⟩)(a:B<=w.heap.size):am 30 #[df n x] w (uv M (B4 M n x) w):=by
 cases n with
 | zero=>exact j.elim
 | succ n=>
 obtain⟨f,c,h,z,y,o⟩:=rD n x B w j a;have s:∀l∈bQ n x,aD ⟨n,l⟩:=λl t=>eu i t;have r:(bQ n x).length<=8:=xR i;have e:s8 (e9 n x) nL=((e9 n x).toList==[99,111,100,101]):=nt _ [99,111,100,101];refine wN M n _ _ _ _ _ _ (e9 n x) f (bQ n x).length c w (B4 M (n+1) x) _ rfl (λd=>?_) o (λd u b=>?_)
 ·simp only[B4,e,d];rfl
 ·have p:B4 M (n+1) x=cG (zM M n) (bQ n x):=by simp only[B4,e,d];rfl
  rw[p]
  exact qu M n (bQ n x) (bQ n x).length rfl r f c B u (h.below (b.mono a)) (az a b.size) (λm k v q=>by
   have g:=b.trans (q.mono b.size)
   exact B9 M n (by omega) m B v ((BA h k).below (g.mono a)) (s m k) (az a g.size))
theorem A8{s:ByteArray}(b:s.toList.isEmpty=true):s=.empty:=by
 apply uD;have a:ByteArray.empty.toList=[]:=by rw[bE];rfl
 rw[a];simpa using b
theorem xY{n:Nat}{x:Tm (n+1)}(f:aD ⟨n+1,x⟩)(c:x.1.1=4):x.1=(4,0,.empty):=by
 have a:=f (bw n x) (by simp[ax,bw]);unfold cg at a;have b:(bw n x).1.1=4:=c;rw[if_neg (by rw[b];omega),if_neg (by rw[b];omega),if_neg (by rw[b];omega),if_pos b]at a;simp only[aA,cm]at a;have d:x.1.2.2=.empty:=A8 a.1.1.1;have e:x.1.2.1=0:=a.1.1.2;exact iv c (iv e d)
theorem qv{n:Nat}{x:Tm (n+1)}(g:aD ⟨n+1,x⟩)(d:x.1.1=2):x.1=(2,0,x.1.2.2)/\x.2.2=[]/\dF x.1.2.2=true:=by
 have b:=g (bw n x) (by simp[ax,bw]);unfold cg at b;have c:(bw n x).1.1=2:=d;rw[if_neg (by rw[c];omega),if_pos c]at b;simp only[aA,gq,cm]at b;obtain⟨⟨f,e⟩,a⟩:=b;refine⟨iv d (iv e rfl),?_,f⟩;rcases a with a|a
 ·rw[c]at a;omega
 ·have h:¬(0:Int)<(x.2.2.length:Int):=by simpa [bw]using a
  exact bF (by omega)
theorem xZ{n:Nat}{x:Tm (n+1)}(g:aD ⟨n+1,x⟩)(d:x.1.1=5):x.1=(5,x.1.2.1,.empty)/\x.2.2=[]/\0<=x.1.2.1/\x.1.2.1<=3:=by
 have c:=g (bw n x) (by simp[ax,bw]);unfold cg at c;have a:(bw n x).1.1=5:=d;rw[if_neg (by rw[a];omega),if_neg (by rw[a];omega),if_neg (by rw[a];omega),if_neg (by rw[a];omega),if_pos a]at c;simp only[aA,gq,cm,oe,bO]at c;obtain⟨⟨f,e⟩,b⟩:=c;refine⟨iv d (iv rfl (A8 f)),?_,e⟩;rcases b with b|b
 ·rw[a]at b;omega
 ·have h:¬(0:Int)<(x.2.2.length:Int):=by simpa [bw]using b
  exact bF (by omega)
theorem r9{n:Nat}{x:Tm (n+1)}(d:aD ⟨n+1,x⟩)(b:x.1.1=2)(N:Nat):ay (N+1) (aZ x.1.2.2 N) (n+1) x=true:=by
 obtain⟨a,c,_⟩:=qv d b;refine cV a.symm ?_;rw[c];rfl
theorem LC{n:Nat}{x:Tm (n+1)}(d:aD ⟨n+1,x⟩)(c:x.1.1=5)(N:Nat):ay (N+1) (bR 5 x.1.2.1 N) (n+1) x=true:=by
 obtain⟨a,b,_⟩:=xZ d c;refine cV a.symm ?_;rw[b];rfl
theorem gI{n:Nat}{x:Tm (n+1)}(j:aD ⟨n+1,x⟩){f:ByteArray}(o:s8 (e9 n x) f=true)(b:f.toList≠[]):x.1=(4,0,.empty)/\∃i,x.2.2=i::bQ n x/\∀N,ay (N+1) (aZ f N) n i=true:=by
 have g:ByteArray.empty.toList=[]:=by rw[bE];rfl
 have a:e9 n x=f:=uD o;unfold e9 at a;by_cases e:x.1.1=4
 ·rw[if_pos e]at a;refine⟨xY j e,?_⟩;obtain⟨⟨k,r,q⟩,⟨p,c⟩,l⟩:=x;simp only at e a;subst e;cases l with
  | nil=>
   simp at a;rw[<-a,g]at b;exact(b rfl).elim
  | cons d l=>
   simp only[cP]at a;cases n with
   | zero=>
    simp[bU]at a;rw[<-a,g]at b;exact(b rfl).elim
   | succ n=>
    by_cases h:d.1.1=2
    ·refine⟨d,by simp[bQ,bU,h],λN=>?_⟩;have m:f=d.1.2.2:=by
      rw[if_pos (show bU ⟨n+1,d⟩=2 from h)]at a;exact a.symm
     rw[m];exact r9 (aU (n+1) _ d j (by simp)) h N
    ·rw[if_neg (show¬bU ⟨n+1,d⟩=2 from h)]at a;rw[<-a,g]at b;exact(b rfl).elim
 ·rw[if_neg e]at a;rw[<-a,g]at b;exact(b rfl).elim
theorem nE(l:List UInt8)(a:l≠[]):(⟨l.toArray⟩:ByteArray).toList≠[]:=by rw[km];exact a
theorem mx{M n:Nat}(a:n<=M+1){y:Tm n}(b:aD ⟨n,y⟩):ay (M+1) (aS (M+1) n y) n y=true:=mn (M+1) n a y (fy n y b)
theorem Ku{b:Type}{l:List b}{a:b}(c:l.length=1)(d:l[0]?=some a):l=[a]:=by
 match l,c with
 | [x],_=>simpa using d
theorem Kv{e:Type}{l:List e}{a b:e}(f:l.length=2)(c:l[0]?=some a)(d:l[1]?=some b):l=[a,b]:=by
 match l,f with
 | [x,y],_=>
  simp at c d;rw[c,d]
theorem DF{g:Type}{l:List g}{a b c:g}(h:l.length=3)(d:l[0]?=some a)(e:l[1]?=some b)(f:l[2]?=some c):l=[a,b,c]:=by
 match l,h with
 | [x,y,z],_=>
  simp at d e f;rw[d,e,f]
theorem GX{i:Type}{l:List i}{a b c d:i}(j:l.length=4)(e:l[0]?=some a)(f:l[1]?=some b)(g:l[2]?=some c)(h:l[3]?=some d):l=[a,b,c,d]:=by
 match l,j with
 | [x,y,z,t],_=>
  simp at e f g h;rw[e,f,g,h]
theorem KS(M:Nat):(n:Nat)->n<=M+1->(x:Tm n)->aD ⟨n,x⟩->(a:Ac (M+1))->sG M n x=some a->ay (M+2) (b9 M a) n x=true/\nN (M+1) a=true
 | 0,_,_,hr,_,_=>(dh hr).elim
 | n+1,hn,x,hr,a,h=>by
  have e:∀y∈bQ n x,aD ⟨n,y⟩:=λy E=>eu hr E;have w:eR (M+1) (zT M)=true:=by
   have t:ByteArray.empty.toList=[]:=by rw[bE];rfl
   simp[eR,gg,bw,zT,t]
  have u:wL .empty 0=true:=by
   have t:ByteArray.empty.toList=[]:=by rw[bE];rfl
   simp[wL,t]
  have get:∀(d:List (Tm n))(s:Nat),s<d.length->∃y,d[s]?=some y/\y∈d:=λd s z=>⟨d[s],aG z,jE z⟩;simp only[sG,jM]at h;split at h
  ·rename_i b;simp only[aA,bO]at b;obtain⟨k,j,l,m⟩:=gI hr b.1 (nE [115,101,110,100] (by simp));obtain⟨c,f,p⟩:=get _ 0 (by rw[b.2];omega);obtain⟨d,q,v⟩:=get _ 1 (by rw[b.2];omega);rw[f,q]at h;have i:a=(1,(aS (M+1) n c,aS (M+1) n d),(.empty,0)):=by simpa using h.symm
   have o:bQ n x=[c,d]:=Kv b.2 f q;subst i;refine⟨cV k.symm ?_,u⟩;rw[l,o];show aC _ [aZ mJ M,aS (M+1) n c,aS (M+1) n d] [j,c,d]=true;simp only[aC,m M,mx (M:=M) (by omega) (e c p),mx (M:=M) (by omega) (e d v),io]
  split at h
  ·rename_i b;simp only[aA,bO]at b;obtain⟨k,j,l,m⟩:=gI hr b.1 (nE [115,112,97,119,110] (by simp));obtain⟨c,f,p⟩:=get _ 0 (by rw[b.2];omega);obtain⟨d,q,v⟩:=get _ 1 (by rw[b.2];omega);obtain⟨g,B,A⟩:=get _ 2 (by rw[b.2];omega);rw[f,q,B]at h;simp only[dA,zO]at h;split at h
   ·rename_i r;have i:a=(2,(zT M,aS (M+1) n d),(xH n c,pF n g)):=by simpa using h.symm
    have o:bQ n x=[c,d,g]:=DF b.2 f q B;subst i;cases n with
    | zero=>exact(dh (e c p)).elim
    | succ n=>
    have D:=xZ (e g A) r.2;have C:=qv (e c p) r.1;refine⟨cV k.symm ?_,?_⟩
    ·rw[l,o];show aC _ [aZ iX M,aZ c.1.2.2 M,aS (M+1) (n+1) d,bR 5 g.1.2.1 M] [j,c,d,g]=true;simp only[aC,m M,mx (M:=M) (by omega) (e d v),r9 (e c p) r.1 M,LC (e g A) r.2 M,io]
    ·show (eR (M+1) (zT M) && dF c.1.2.2 && decide (0<=g.1.2.1) && decide (g.1.2.1<4))=true;rw[w,C.2.2,gX D.2.2.1,gX (by omega)];rfl
   ·cases h
  split at h
  ·rename_i b;simp only[aA,bO]at b;obtain⟨k,j,l,m⟩:=gI hr b.1 (nE [108,105,110,107] (by simp));obtain⟨c,f,p⟩:=get _ 0 (by rw[b.2];omega);rw[f]at h;have i:a=(3,(aS (M+1) n c,zT M),(.empty,0)):=by simpa using h.symm
   have o:bQ n x=[c]:=Ku b.2 f;subst i;refine⟨cV k.symm ?_,?_⟩
   ·rw[l,o];show aC _ [aZ mI M,aS (M+1) n c] [j,c]=true;simp only[aC,m M,mx (M:=M) (by omega) (e c p),io]
   ·show (eR (M+1) (zT M) && wL .empty 0)=true;rw[w,u];rfl
  split at h
  ·rename_i b;simp only[aA,bO]at b;obtain⟨k,j,l,m⟩:=gI hr b.1 (nE [115,116,111,112] (by simp));have i:a=(4,(zT M,zT M),(.empty,0)):=by simpa using h.symm
   have o:bQ n x=[]:=bF b.2;subst i;refine⟨cV k.symm ?_,?_⟩
   ·rw[l,o];show aC _ [aZ lL M] [j]=true;simp only[aC,m M,io]
   ·show (eR (M+1) (zT M) && eR (M+1) (zT M) && wL .empty 0)=true;rw[w,u];rfl
  ·cases h
theorem pK{b:Type}{f g:b->Bool}:{l:List b}->(∀x∈l,f x=g x)->l.all f=l.all g
 | [],_=>rfl
 | a::l,h=>by
  simp only[ip,h a (by simp),pK (l:=l) λx c=>h x (by simp[c])]
theorem oG{d:Type}{n N:Nat}{f:Tm n->Option d}{g:d->Tm N}{B:d->Bool}(e:∀x a,aD ⟨n,x⟩->f x=some a->ay N (g a) n x=true/\B a=true):(p:List (Tm n))->(∀y∈p,aD ⟨n,y⟩)->(l:List d)->cG f p=some l->aC (λa b=>ay N a n b) (l.map g) p=true/\l.all B=true/\l.length=p.length
 | [],_,l,c=>by
  simp[cG]at c;subst c;exact⟨rfl,rfl,rfl⟩
 | y::p,hr,l,c=>by
  simp only[cG]at c;obtain⟨a,k,c⟩:=bB.1 c;obtain⟨r,m,rfl⟩:=ci.1 c;obtain⟨h,i,j⟩:=oG e p (λt o=>hr t (by simp[o])) r m;obtain⟨q,s⟩:=e y a (hr y (by simp)) k;refine⟨?_,by simp[s,i],by simp[j]⟩;simp only[aM,aC,q,h,io]
theorem qn{N M n:Nat}(c:n<=M+1)(b:M+1<=N){y:Tm n}(d:aD ⟨n,y⟩):ay N (aS N (M+1) (aS (M+1) n y)) n y=true:=by
 have a:=mx c d;exact bH _ _ _ _ _ _ (mn N (M+1) b _ (yg a)) a
theorem KU(M:Nat):(n:Nat)->n<=M+1->(x:Tm n)->aD ⟨n,x⟩->(c:Cl (M+1))->zN M n x=some c->ay (M+4) (dG M c) n x=true/\tF (M+1) c=true
 | 0,_,_,hr,_,_=>(dh hr).elim
 | n+1,hn,x,hr,c,h=>by
  have d:∀y∈bQ n x,aD ⟨n,y⟩:=λy e=>eu hr e;have get:∀(q:List (Tm n))(i:Nat),i<q.length->∃y,q[i]?=some y/\y∈q:=λq i j=>⟨q[i],aG j,jE j⟩;simp only[zN,sH]at h;split at h
  ·rename_i b;simp only[aA,bO]at b;obtain⟨z,w,A,C⟩:=gI hr b.1 (nE [111,110] (by simp));obtain⟨p,k,m⟩:=get _ 0 (by rw[b.2];omega);obtain⟨q,o,I⟩:=get _ 1 (by rw[b.2];omega);obtain⟨r,u,f⟩:=get _ 2 (by rw[b.2];omega);obtain⟨t,v,J⟩:=get _ 3 (by rw[b.2];omega);rw[k,o,u,v]at h;simp only[dA]at h;split at h
   ·rename_i F;obtain⟨l,G,rfl⟩:=ci.1 h;have H:bQ n x=[p,q,r,t]:=GX b.2 k o u v;cases n with
    | zero=>exact(dh (d p m)).elim
    | succ n=>
    have s:r.1.1=4:=F;obtain⟨K,L,P⟩:=oG (g:=b9 M) (B:=nN (M+1)) (λy a e E=>KS M n (by omega) y e a E) r.2.2 (λy e=>aU n r y (d r f) e) l G;have O:=mB (d r f) s;refine⟨cV z.symm ?_,?_⟩
    ·rw[A,H];show aC _ [aZ LW (M+2),aS (M+3) (M+1) (aS (M+1) (n+1) p),aS (M+3) (M+1) (aS (M+1) (n+1) q),cY (M+2) (l.map (b9 M)),aS (M+3) (M+1) (aS (M+1) (n+1) t)] [w,p,q,r,t]=true;have D:ay (M+3) (cY (M+2) (l.map (b9 M))) (n+1) r=true:=cV (xY (d r f) s).symm K;simp only[aC,C (M+2),qn (N:=M+3) (M:=M) (by omega) (by omega) (d p m),qn (N:=M+3) (M:=M) (by omega) (by omega) (d q I),qn (N:=M+3) (M:=M) (by omega) (by omega) (d t J),D,io]
    ·show (decide ((l.length:Int)<=8) && l.all (nN (M+1)))=true;rw[L,gX (by omega)];rfl
   ·cases h
  ·cases h
theorem KT(M:Nat):(n:Nat)->n<=M+1->(x:Tm n)->aD ⟨n,x⟩->(b:Bh (M+1))->zM M n x=some b->ay (M+5) (dQ M b) n x=true/\(dF b.1 && decide ((b.2.2.length:Int)<=6) && b.2.2.all (tF (M+1)))=true
 | 0,_,_,hr,_,_=>(dh hr).elim
 | n+1,hn,x,hr,b,a=>by
  have e:∀y∈bQ n x,aD ⟨n,y⟩:=λy d=>eu hr d;simp only[zM,tK]at a;split at a
  ·rename_i u;obtain⟨h,r,i,s⟩:=gI hr u (nE [98,101,104] (by simp));obtain⟨p,m,a⟩:=bB.1 a;split at a
   ·rename_i k;obtain⟨l,v,rfl⟩:=ci.1 a;have z:x.1.1=4:=by rw[h]
    have j:=mB hr z;generalize bQ n x=f at*;cases f with
    | nil=>simp at m
    | cons c f=>
    have q:c=p:=by simpa using m
    subst q;cases n with
    | zero=>exact(dh (e c (by simp))).elim
    | succ n=>
    have w:=qv (e c (by simp)) k;obtain⟨A,C,D⟩:=oG (g:=dG M) (B:=tF (M+1)) (λy o d t=>KU M (n+1) (by omega) y d o t) f (λy d=>e y (by simp[d])) l v;rw[i]at j;simp only[bf]at j;refine⟨cV h.symm ?_,?_⟩
    ·rw[i];show aC _ (aZ tV (M+3)::aZ c.1.2.2 (M+3)::l.map (dG M)) (r::c::f)=true;simp only[aC,s (M+3),r9 (e c (by simp)) k (M+3),A,io]
    ·show (dF c.1.2.2 && decide ((l.length:Int)<=6) && l.all (tF (M+1)))=true;rw[w.2.2,C,gX (by omega)];rfl
   ·cases a
  ·cases a
theorem B5(M:Nat):(n:Nat)->n<=M+1->(x:Tm n)->aD ⟨n,x⟩->(l:List (Bh (M+1)))->B4 M n x=some l->ay (M+6) (bK M l) n x=true/\ky (M+1) l=(decide (1<=(l.length:Int)) && l.all λb=>decide (1<=(b.2.2.length:Int)))
 | 0,_,_,hr,_,_=>(dh hr).elim
 | n+1,hn,x,hr,l,h=>by
  have r:∀y∈bQ n x,aD ⟨n,y⟩:=λy c=>eu hr c;simp only[B4]at h;split at h
  ·rename_i a;obtain⟨d,o,e,p⟩:=gI hr a (nE [99,111,100,101] (by simp));have s:x.1.1=4:=by rw[d]
   have f:=mB hr s;obtain⟨t,i,u⟩:=oG (g:=dQ M) (B:=λb=>dF b.1 && decide ((b.2.2.length:Int)<=6) && b.2.2.all (tF (M+1))) (λy j c q=>KT M n (by omega) y c j q) (bQ n x) r l h;rw[e]at f;simp only[bf]at f;refine⟨cV d.symm ?_,?_⟩
   ·rw[e];show aC _ (aZ nL (M+4)::l.map (dQ M)) (o::bQ n x)=true;simp only[aC,p (M+4),t,io]
   ·have k:decide ((l.length:Int)<=7)=true:=gX (by omega);have m:l.all (wF (M+1))=l.all λb=>decide (1<=(b.2.2.length:Int)):=by
     rw[bZ]at i;refine pK λb a=>?_;have:=i b a;simp only[aA]at this;simp only[wF,this.1.1,this.1.2,this.2,ez,Bool.and_true]
    simp only[ky,k,m,Bool.and_true]
  ·cases h
theorem dN{g d:Type}{f:g->d->Bool}{p:List g}{b:d}{q:List d}(c:aC f p (b::q)=true):∃a e,p=a::e/\f a b=true/\aC f e q=true:=by
 cases p with
 | nil=>simp[aC]at c
 | cons a p=>
  simp only[aC,aA]at c;exact⟨a,p,rfl,c.1,c.2⟩
theorem mC{a b:Type}{f:a->b->Bool}{p:List a}(c:aC f p ([]:List b)=true):p=[]:=by
 cases p with
 | nil=>rfl
 | cons d p=>simp[aC]at c
theorem K6{n m:Nat}{x:Tm n}{y:Tm (m+1)}(a:ay n x (m+1) y=true):(gg n x).1=y.1:=(FF a).1
theorem nF{N n:Nat}{x:Tm (N+1)}{c:ByteArray}{ys:List (Tm (n+1))}(k:ay (N+1) x (n+2) (cY (n+1) (aZ c n::ys))=true):e9 N x=c/\aC (λa b=>ay N a (n+1) b) (bQ N x) ys=true:=by
 obtain⟨l,m⟩:=bG k;obtain⟨a,q,g,h,o⟩:=dN m;have d:x.1.1=4:=by rw[l];rfl
 have e:=K6 h;have i:bU ⟨N,a⟩=2:=by
  cases N with
  | zero=>simp[ay]at h
  | succ N=>
   have:a.1.1=2:=by
    have j:a.1=(2,0,c):=e;rw[j]
   exact this
 have f:x.2.2[0]?=some a:=by rw[g];rfl
 have p:x.2.2.drop 1=q:=by rw[g];rfl
 constructor
 ·simp only[e9,d,cF,f,i];rw[e];rfl
 ·simp only[bQ,d,cF,f,i,p];exact o
theorem ld(a:ByteArray):s8 a a=true:=by simp[s8]
theorem tX{o g:Type}{n:Nat}{f:Tm n->Option o}{R:Tm n->g->Prop}{Q:o->g->Prop}(j:∀y b,R y b->∃a,f y=some a/\Q a b):(q:List (Tm n))->(l:List g)->eQ R q l->∃c,cG f q=some c/\eQ Q c l
 | [],[],_=>⟨[],rfl,eQ.nil⟩
 | [],_::_,h=>by have:=h.1;simp at this
 | _::_,[],h=>by have:=h.1;simp at this
 | y::q,b::l,h=>by
  obtain⟨a,p,k⟩:=j y b h.tail.1;obtain⟨c,r,m⟩:=tX j q l h.tail.2;refine⟨a::c,by simp[cG,p,r],by simp[m.1],λi s v d e=>?_⟩;cases i with
  | zero=>
   simp at d e;subst d e;exact k
  | succ i=>exact m.2 i s v (by simpa using d) (by simpa using e)
theorem lH{e:Type}{n m:Nat}(g:e->Tm m):(q:List (Tm n))->(l:List e)->aC (λa b=>ay n a m b) q (l.map g)=true->eQ (λy b=>ay n y m (g b)=true) q l
 | [],[],_=>eQ.nil
 | [],_::_,h=>by simp[aC]at h
 | _::_,[],h=>by simp[aC]at h
 | y::q,b::l,h=>by
  simp only[aM,aC,aA]at h;have ih:=lH g q l h.2;refine⟨by simp[ih.1],λi f v c d=>?_⟩;cases i with
  | zero=>
   simp at c d;subst c d;exact h.1
  | succ i=>exact ih.2 i f v (by simpa using c) (by simpa using d)
theorem kv{a s:ByteArray}(b:a.toList≠s.toList):s8 a s=false:=by simpa [s8]using b
theorem OS(M N n:Nat)(a:Ac (n+1))(y:Tm N)(b:ay N y (n+2) (b9 n a)=true):∃E,sG M N y=some E:=by
 cases N with
 | zero=>simp[ay]at b
 | succ N=>
 have i:mJ.toList=[115,101,110,100]:=km [115,101,110,100];have j:iX.toList=[115,112,97,119,110]:=km [115,112,97,119,110];have k:mI.toList=[108,105,110,107]:=km [108,105,110,107];have l:lL.toList=[115,116,111,112]:=km [115,116,111,112];unfold b9 at b;split at b
 ·obtain⟨c,d⟩:=nF b;obtain⟨s,t,f,r,h⟩:=dN d;obtain⟨B,C,o,z,q⟩:=dN h;have p:=mC q;subst o p;simp only[sG,jM,c,f,ld];exact⟨_,rfl⟩
 split at b
 ·obtain⟨c,d⟩:=nF b;obtain⟨s,t,f,r,h⟩:=dN d;obtain⟨B,C,o,z,q⟩:=dN h;obtain⟨D,F,p,A,v⟩:=dN q;have g:=mC v;subst o p g;have w:bU ⟨N,s⟩=2:=by rw[kB r];rfl
  have x:bU ⟨N,D⟩=5:=by rw[kB A];rfl
  have e:s8 iX mJ=false:=kv (by rw[i,j];decide);simp only[sG,jM,c,f,ld,e,Bool.false_and,ez];simp[zO,w,x]
 split at b
 ·obtain⟨c,d⟩:=nF b;obtain⟨s,t,f,r,h⟩:=dN d;have g:=mC h;subst g;have e:s8 mI mJ=false:=kv (by rw[i,k];decide);have m:s8 mI iX=false:=kv (by rw[j,k];decide);simp only[sG,jM,c,f,ld,e,m,Bool.false_and,ez];simp
 ·obtain⟨c,d⟩:=nF b;have g:=mC d;have e:s8 lL mJ=false:=kv (by rw[i,l];decide);have m:s8 lL iX=false:=kv (by rw[j,l];decide);have u:s8 lL mI=false:=kv (by rw[k,l];decide);simp only[sG,jM,c,g,ld,e,m,u,Bool.false_and,ez];simp
theorem OU(M N n:Nat)(c:Cl (n+1))(y:Tm N)(g:ay N y (n+4) (dG n c)=true):∃e,zN M N y=some e:=by
 cases N with
 | zero=>simp[ay]at g
 | succ N=>
 obtain⟨o,p⟩:=nF g;obtain⟨B,G,i,D,q⟩:=dN p;obtain⟨C,H,j,E,r⟩:=dN q;obtain⟨a,I,k,d,s⟩:=dN r;obtain⟨t,J,l,F,u⟩:=dN s;have m:=mC u;subst j k l m;have v:bU ⟨N,a⟩=4:=by rw[kB d];rfl
 cases N with
 | zero=>simp[ay]at d
 | succ N=>
 obtain⟨h,z,_⟩:=tX (f:=sG M N) (R:=λy b=>ay N y (n+2) (b9 n b)=true) (Q:=λ_ _=>True) (λy b w=>by
  obtain⟨e,x⟩:=OS M N n b y w
  exact⟨e,x,trivial⟩) a.2.2 c.2.2 (lH (b9 n) _ _ (bG d).2)
 have A:cG (sG M (N+1-1)) (ES (N+1) a)=some h:=z;refine⟨((aS (M+1) (N+1) B,aS (M+1) (N+1) C,aS (M+1) (N+1) t),(none,0),h),?_⟩;show sH M (N+1) (e9 (N+1) y) (bQ (N+1) y)=_;rw[o,i];unfold sH;rw[if_pos (by rw[ld];rfl)];show (if bU ⟨N+1,a⟩=4 then (cG (sG M (N+1-1)) (ES (N+1) a)).map _ else none)=_;rw[if_pos v,A];rfl
theorem OT(M N n:Nat)(b:Bh (n+1))(y:Tm N)(c:ay N y (n+5) (dQ n b)=true):∃a,zM M N y=some a/\a.2.2.length=b.2.2.length:=by
 cases N with
 | zero=>simp[ay]at c
 | succ N=>
 obtain⟨g,h⟩:=nF c;obtain⟨d,q,e,p,i⟩:=dN h;have j:bU ⟨N,d⟩=2:=by rw[kB p];rfl
 obtain⟨r,o,k⟩:=tX (f:=zN M N) (R:=λy b=>ay N y (n+4) (dG n b)=true) (Q:=λ_ _=>True) (λy b l=>by
  obtain⟨a,m⟩:=OU M N n b y l
  exact⟨a,m,trivial⟩) q b.2.2 (lH (dG n) _ _ i)
 refine⟨(xH N d,(none,0),r),?_,k.1⟩;simp only[zM,tK,g,e,ld];simp[j,o]
theorem KV(M N n:Nat)(q:N<=M+1)(l:List (Bh (n+1)))(e:ky (n+1) l=true)(x:Tm N)(r:aD ⟨N,x⟩)(i:ay N x (n+6) (bK n l)=true):∃a,B4 M N x=some a/\ky (M+1) a=true/\a.length=l.length:=by
 cases N with
 | zero=>simp[ay]at i
 | succ N=>
 obtain⟨o,p⟩:=nF i;obtain⟨h,u,c⟩:=tX (f:=zM M N) (R:=λg b=>ay N g (n+5) (dQ n b)=true) (Q:=λa b=>a.2.2.length=b.2.2.length) (λg b s=>OT M N n b g s) (bQ N x) l (lH (dQ n) _ _ p);have m:B4 M (N+1) x=some h:=by
  simp only[B4,o,ld];simpa using u
 refine⟨h,m,?_,c.1⟩;rw[(B5 M (N+1) q x r h m).2];simp only[ky,wF,aA,bO,bZ]at e ⊢;refine⟨by rw[c.1];exact e.1.1,λa t=>?_⟩;obtain⟨d,j⟩:=cM t;have k:d<l.length:=by have:=(aO.1 j).1;rw[<-c.1];exact this
 have:=c.2 d a l[d] j (aG k);rw[this];exact(e.2 l[d] (jE k)).1.1.2
def Bj(M:Nat)(o:Option (List (Bh (M+1)))):Int:=match o with|some l=>if ky (M+1) l=true then 0 else 5|none=>5
def Bi(M n:Nat)(x:Tm n):Int:=if bv n x=0 then Bj M (B4 M n x)else bv n x
def tW(M:Nat)(E:Int)(o:Option (List (Bh (M+1))))(w:World)(e:Ending)(w':World):Prop:=
 ∃(l:List (Bh (M+1)))(a:Option Addr)(c:Nat),e=.returned (.tuple #[ae a l.length c,ab E])/\Hid (aj w w'/\(l.length<=c/\c<=maxLen)/\fR (M+1) w'.heap.size w' a l/\tD (jQ (M+1) (λb=>w.heap.size<=b)) (λb=>w.heap.size<=b) a l/\(¬E=0->l=[])/\(E=0->∃d,o=some d/\eQ (yN (M+1)) l d))
theorem sw{M:Nat}{E:Int}{o:Option (List (Bh (M+1)))}{w w':World}(a:¬E=0)(c:aj w w'):tW M E o w (.returned (.tuple #[ae none 0 0,ab E])) w':=
 ⟨[],none,0,rfl,c,⟨ak _,aI _⟩,ah rfl,ah rfl,λ_=>rfl,λb=>(a b).elim⟩
theorem GF(M:Nat)(k A:Int)(s:ByteArray)(a:Option Addr)(l c:Nat)(w:World)(g:Int)(o:Option (List (Bh (M+1))))(E:Int)(J:Hid (E=if g=0 then Bj M o else g))(Q:Hid (∀w1,aj w w1->am 23 #[.agg #[ab k,ab A,af s,ae a l c]] w1 λe w'=>e=.returned (ab g)/\aj w1 w'))(H:Hid (g=0->∀w1,aj w w1->am 30 #[.agg #[ab k,ab A,af s,ae a l c]] w1 (uv M o w1))):am 8 #[.agg #[ab k,ab A,af s,ae a l c]] w (tW M E o w):=by
 go_enter func8,ntmps8;go_wp2_with fail;refine(Q _ aN).mono ?_;rintro e w1 ⟨rfl,L⟩;have q:Hid (aj w w1):=aN.trans (L.mono (by simp));have j:=aq (qT w _ _ _ _ _ L);clear L Q;by_cases z:g=0
 ·subst z;have S:=aq (H (by simp) w1 q);have X:w1.cell? ⟨w.heap.size,0,none⟩=some (ab k):=au j 0;have Y:w1.cell? ⟨w.heap.size,1,none⟩=some (ab A):=au j 1;have Z:w1.cell? ⟨w.heap.size,2,none⟩=some (af s):=au j 2;have aa:w1.cell? ⟨w.heap.size,3,none⟩=some (ae a l c):=au j 3;have al:w.heap.size<w1.heap.size:=(aF.1 j).1;have D:=aq (show E=Bj M o by simpa using J.out);clear H J;go_wp2_with fail;refine S.mono ?_;rintro e B ⟨p,u,y,ai,rfl,i⟩;obtain⟨t,K⟩:∃t,p.length=t:=⟨_,rfl⟩;rw[K];have G:=aq K;have r:Hid (aj w B):=q.trans (i.1.mono q.size);clear K S X Y Z aa j;cases ai
  ·have h:Hid (E=5):=by
     show E=5;rw[D.out];have d:=i.2.1;cases o with
     | none=>rfl
     | some f=>cases d
   have W:Hid (tW M E o w (.returned (.tuple #[ae none 0 0,ab 5])) B):=by
    have d:=sw (M:=M) (E:=E) (o:=o) (by rw[h.out];omega) r;rw[h.out]at d;rw[h.out];exact d
   go_wp2_with fail;exact av (v:=.tuple #[ae none 0 0,ab 5]) (by simp[results,results8,go_sem]) rfl W
  ·have F:Hid (∀m,aj B m->am 21 #[ae u t y] m λe w'=>e=.returned (.bool (ky (M+1) p))/\aj m w'):=λm T=>
     pO M p t G u y B.heap.size m (fR.below T i.2.2.2.1) (by have:=i.2.2.1;have:=G.out;unfold maxLen at*;omega) T.size
   obtain⟨b,x⟩:∃b,ky (M+1) p=b:=⟨_,rfl⟩;rw[x]at F;have R:=aq x;clear x;have I:Hid (∃f,o=some f/\eQ (yN (M+1)) p f):=by
    have d:=i.2.1;cases o with
    | none=>cases d
    | some f=>exact⟨f,rfl,i.2.2.2.2.2 f rfl⟩
   cases b
   ·have h:Hid (E=5):=by
      show E=5;obtain⟨f,O,N⟩:=I.out;rw[D.out,O];show (if ky (M+1) f=true then (0:Int)else 5)=5;rw[<-KN N,R.out];rfl
    go_wp2_with (go_at_call 21;refine(F _ (ap _ _)).mono ?_;rintro e m ⟨rfl,n⟩;have C:=aq (r.trans (n.mono r.size));clear n);refine av (v:=.tuple #[ae none 0 0,ab 5]) (by simp[results,results8,go_sem]) rfl ?_;have d:=sw (M:=M) (E:=E) (o:=o) (by rw[h.out];omega) C;rw[h.out]at d;rw[h.out];exact d
   ·have U:Hid (E=0):=by
      show E=0;obtain⟨f,O,N⟩:=I.out;rw[D.out,O];show (if ky (M+1) f=true then (0:Int)else 5)=0;rw[<-KN N,R.out];rfl
    go_wp2_with (go_at_call 21;refine(F _ (ap _ _)).mono ?_;rintro e m ⟨rfl,n⟩;have P:=aq n;have C:=aq (r.trans (n.mono r.size));clear n);refine av (v:=.tuple #[ae u t y,ab 0]) (by simp[results,results8,go_sem]) rfl ?_;obtain⟨an,ao,ad,ag,ah,ar⟩:=i;rw[U.out];exact⟨p,u,y,by rw[G.out],C,ad,(fR.below P ag).mono P.size,(cq (dP _) 2 (oI (M+1)) u).1 _ _ _ (λb x=>az q.size x) ah,λd=>(d rfl).elim,λ_=>I⟩
 ·have ak:(g !=0)=true:=by simpa using z
  have V:Hid (E=g):=by
   show E=g;rw[J.out,if_neg z]
  clear H j;go_wp2_with fail;refine av (v:=.tuple #[ae none 0 0,ab g]) (by simp[results,results8,go_sem]) rfl ?_;rw[V.out];exact sw z q
theorem Bk(M n:Nat)(g:n<=M+1)(x:Tm n)(B:Nat)(w:World)(c:In B w n x)(f:(ax n x).length<=2097152)(b:B<=w.heap.size):am 8 #[df n x] w (tW M (Bi M n x) (B4 M n x) w):=by
 cases n with
 | zero=>exact c.elim
 | succ n=>
 exact GF M x.1.1 x.1.2.1 x.1.2.2 x.2.1.1 x.2.2.length x.2.1.2 w (bv (n+1) x) _ _ rfl (λd a=>dC (n+1) x B d (c.below (a.mono b)) (az b a.size) f) (λe d a=>zY M (n+1) g x B d (c.below (a.mono b)) (aL.2 (bC.1 e).1) (az b a.size))
theorem p9{n:Nat}{x:Tm n}(a:bv n x=0):aD ⟨n,x⟩:=aL.2 (bC.1 a).1
theorem dH{n:Nat}{p:List (Bh (n+1))}(b:ki n p=0):ky (n+1) p=true/\bv (n+6) (bK n p)=0/\I8 n p=bK n p:=by
 have a:=b;unfold ki at a;split at a
 ·rename_i c;exact⟨c,a,by unfold I8;rw[if_pos b]⟩
 ·omega
theorem OZ{n:Nat}{p:List (Bh (n+1))}(a:ky (n+1) p=true)(k:bv (n+6) (bK n p)=0):ki n p=0:=by
 unfold ki;rw[if_pos a];exact k
theorem xX{M n:Nat}(i:n<=M+1){x:Tm n}(e:bv n x=0){a l:List (Bh (M+1))}(j:B4 M n x=some a)(f:eQ (yN (M+1)) l a)(h:ky (M+1) a=true):ky (M+1) l=true/\ki M l=0/\ay (M+6) (I8 M l) n x=true/\(ax (M+6) (bK M l)).length=(ax n x).length:=by
 have g:=B5 M n i x (p9 e) a j;have c:ky (M+1) l=true:=(KN f).trans h;have b:ay (M+6) (bK M l) n x=true:=bH _ _ _ _ _ _ (KO f) g.1;have d:ki M l=0:=OZ c ((bJ b).trans e);exact⟨c,d,by rw[(dH d).2.2];exact b,kC _ _ _ _ b⟩
theorem IC{n:Nat}{p:List (Bh (n+1))}(i:ki n p=0){y:Tm (n+6)}(a:ay (n+6) y (n+6) (I8 n p)=true):bv (n+6) y=0/\Bi (n+5) (n+6) y=0/\∀e l,B4 (n+5) (n+6) y=some e->eQ (yN (n+6)) l e->ky (n+6) l=true/\ki (n+5) l=0/\ay (n+11) (I8 (n+5) l) (n+6) (I8 n p)=true/\l.length=p.length/\(ax (n+11) (bK (n+5) l)).length=(ax (n+6) (bK n p)).length:=by
 obtain⟨j,k,f⟩:=dH i;rw[f]at a;have b:bv (n+6) y=0:=(bJ a).trans k;obtain⟨e,d,h,m⟩:=KV (n+5) (n+6) n (ak _) p j y (p9 b) a;refine⟨b,?_,λt l c g=>?_⟩
 ·unfold Bi;rw[if_pos b,d];unfold Bj;simp only[h,cF]
 ·rw[d]at c;injection c with c;subst c;obtain⟨o,q,r,s⟩:=xX (ak _) b d g h;exact⟨o,q,by rw[f];exact bH _ _ _ _ _ _ r a,g.1.trans m,by rw[s];exact kC _ _ _ _ a⟩
theorem sy{n d:Nat}{p:List (Tm n)}{q:List (Tm d)}(c:aC (λa b=>ay n a d b) p q=true)(s:ByteArray)(k:Nat):ua n p s k=ua d q s k:=by
 unfold ua;rw[cE _ _ _ c];cases p with
 | nil=>
  cases q with
  | nil=>rfl
  | cons b q=>simp[aC]at c
 | cons a p=>
  cases q with
  | nil=>simp[aC]at c
  | cons b q=>
   simp only[aC,aA]at c;have e:(gg n a).1=(gg d b).1:=by
    cases n with
    | zero=>exact absurd c.1 (by simp[ay])
    | succ n=>
     cases d with
     | zero=>exact absurd c.1 (by simp[ay])
     | succ d=>exact(bG c.1).1
   simp only[cP,(kX _ _ _ _ c.1).1,e]
theorem qR{n e:Nat}{p:List (Tm n)}{q:List (Tm e)}(f:aC (λa b=>ay n a e b) p q=true)(i:Nat):(p[i]?=none/\q[i]?=none)\/∃a b,p[i]?=some a/\q[i]?=some b/\ay n a e b=true/\a∈p/\b∈q:=by
 have h:=cE _ _ _ f;by_cases g:i<p.length
 ·have c:=aG g;have d:=aG (show i<q.length by omega);exact ai ⟨_,_,c,d,jx _ _ _ f _ _ _ c d,aH c,aH d⟩
 ·exact ah ⟨eD (by omega),eD (by omega)⟩
theorem AE{n i N M:Nat}(f:Tm n->Option (Tm N))(g:Tm i->Option (Tm M)):(p:List (Tm n))->(q:List (Tm i))->aC (λa b=>ay n a i b) p q=true->(∀a∈p,∀b∈q,ay n a i b=true->fB N M (f a) (g b))->fB (N+1) (M+1) ((cG f p).map (cY N)) ((cG g q).map (cY M))/\((cG f p=none/\cG g q=none)\/∃l r,cG f p=some l/\cG g q=some r/\aC (λa b=>ay N a M b) l r=true)
 | [],[],_,_=>⟨by simp[cG,fB,ay,cY,aC],ai ⟨[],[],rfl,rfl,rfl⟩⟩
 | [],_::_,h,_=>by simp[aC]at h
 | _::_,[],h,_=>by simp[aC]at h
 | a::p,b::q,d,h=>by
  simp only[aC,aA]at d;have c:=h a (by simp) b (by simp) d.1;have s:=(AE f g p q d.2 λx t y u=>h x (by simp[t]) y (by simp[u])).2;simp only[cG];cases e1:f a with
  | none=>
   rw[e1]at c;cases e:g b with
   | none=>simp[fB]
   | some _=>rw[e]at c;exact c.elim
  | some o=>
   rw[e1]at c;cases e:g b with
   | none=>rw[e]at c;exact c.elim
   | some v=>
    rw[e]at c;have d:ay N o M v=true:=c;rcases s with⟨j,k⟩|⟨l,r,j,k,m⟩
    ·rw[j,k];simp[fB]
    ·rw[j,k];exact⟨by simp[fB,ay,cY,aC,d,m],ai ⟨o::l,v::r,rfl,rfl,by simp[aC,d,m]⟩⟩
theorem Ap(m:Nat)(b:List (Tm m))(i:Nat)(k:List (Tm i))(self:Int)(u:aC (λx y=>ay m x i y) b k=true)(z:∀y∈b,aD ⟨m,y⟩)(A:∀y∈k,aD ⟨i,y⟩):(n:Nat)->(x:Tm n)->(d:Nat)->(x':Tm d)->aD ⟨n,x⟩->aD ⟨d,x'⟩->ay n x d x'=true->fB (m+n) (i+d) (vl m b self n x) (vl i k self d x')
 | 0,_,_,_,_,_,h=>by simp[ay]at h
 | _+1,_,0,_,_,_,h=>by simp[ay]at h
 | n+1,x,d+1,x',hx,hx',h=>by
  obtain⟨H,j⟩:=bG h;unfold vl;rw[<-H];by_cases s:x.1.1=5
  ·rw[if_pos s,if_pos s];rcases qR u x.1.2.1.toNat with⟨e,f⟩|⟨y,F,e,f,C,p,q⟩
   ·rw[e,f];trivial
   ·rw[e,f];simp only[dA];rw[<-(kX _ _ _ _ C).1];by_cases g:bU ⟨m,y⟩=6
    ·rw[if_pos g,if_pos g];trivial
    ·rw[if_neg g,if_neg g];exact iN (by omega) (by omega) (z y p) (A _ q) C
  ·rw[if_neg s,if_neg s];by_cases g:x.1.1=6
   ·rw[if_pos g,if_pos g];trivial
   ·rw[if_neg g,if_neg g];by_cases r:x.1.1=4
    ·rw[if_pos r,if_pos r,<-sy j,<-sy j,<-sy j];by_cases B:ua n x.2.2 pT 0=true
     ·rw[if_pos B,if_pos B];simp[fB,ay,bR,aC]
     ·rw[if_neg B,if_neg B];by_cases t:ua n x.2.2 wm 2=true
      ·rw[if_pos t,if_pos t];rcases qR j 1 with⟨e,f⟩|⟨a,o,e,f,l,p,q⟩
       ·rw[e,f];trivial
       ·rcases qR j 2 with⟨D,E⟩|⟨c,G,D,E,K,M,N⟩
        ·rw[e,f,D,E];trivial
        ·rw[e,f,D,E];simp only[dA];exact nz (Ap m b i k self u z A n a d o (aU n x a hx p) (aU d x' o hx' q) l) λO v I=>nz (Ap m b i k self u z A n c d G (aU n x c hx M) (aU d x' G hx' N) K) λP Q J=>yn I J
      ·rw[if_neg t,if_neg t];by_cases w:ua n x.2.2 CG 1=true
       ·rw[if_pos w,if_pos w];rcases qR j 1 with⟨e,f⟩|⟨a,o,e,f,l,p,q⟩
        ·rw[e,f];trivial
        ·rw[e,f];simp only[dA,cB _ _ _ _ l];cases aK d o
         ·simp[fB]
         ·exact iN (by omega) (by omega) (aU n x a hx p) (aU d x' o hx' q) l
       ·rw[if_neg w,if_neg w];exact(AE _ _ x.2.2 x'.2.2 j λy C F L l=>Ap m b i k self u z A n y d F (aU n x y hx C) (aU d x' F hx' L) l).1
    ·rw[if_neg r,if_neg r];exact iN (by omega) (by omega) hx hx' h
theorem FM{B:List Tc}(c:∀y∈B,aD ⟨13,y⟩)(self:Int){n a:Nat}{x:Tm n}{x':Tm a}(g:aD ⟨n,x⟩)(h:aD ⟨a,x'⟩)(e:ay n x a x'=true):sO B self n x=sO B self a x':=by
 have f:aC (λx y=>ay 13 x 13 y) B B=true:=iS _ _ λy i=>fy 13 y (c y i);have k:=Ap 13 B 13 B self f c c n x a x' g h e;unfold sO;cases e1:vl 13 B self n x with
 | none=>
  rw[e1]at k;cases b:vl 13 B self a x' with
  | none=>rfl
  | some _=>rw[b]at k;exact k.elim
 | some j=>
  rw[e1]at k;cases b:vl 13 B self a x' with
  | none=>rw[b]at k;exact k.elim
  | some l=>
   rw[b]at k;have d:ay (13+n) j (13+a) l=true:=k;simp only[dA];rw[bJ d,ic d]
def PT(k:Nat)(d:Dg):Prop:=(∀y∈d.b,aD ⟨13,y⟩)/\1<=d.next/\d.next+k<=100
theorem tp{n:Nat}(a:Ac (n+1)):(a.1=1/\(b9 n a).2.2=[aZ mJ n,a.2.1.1,a.2.1.2])\/(a.1=2/\(b9 n a).2.2=[aZ iX n,aZ a.2.2.1 n,a.2.1.2,bR 5 a.2.2.2 n])\/(a.1=3/\(b9 n a).2.2=[aZ mI n,a.2.1.1])\/((a.1≠1/\a.1≠2/\a.1≠3)/\(b9 n a).2.2=[aZ lL n]):=by
 unfold b9;by_cases b:a.1=1
 ·exact ah ⟨b,by rw[if_pos b];rfl⟩
 ·by_cases c:a.1=2
  ·exact ai (ah ⟨c,by rw[if_neg b,if_pos c];rfl⟩)
  ·by_cases d:a.1=3
   ·exact ai (ai (ah ⟨d,by rw[if_neg b,if_neg c,if_pos d];rfl⟩))
   ·exact ai (ai (ai ⟨⟨b,c,d⟩,by rw[if_neg b,if_neg c,if_neg d];rfl⟩))
theorem Hq{a:Int}(d:1<=a/\a<=99):aD ⟨13,DX a⟩:=by
 intro c b;have b:c∈[(((3,a,.empty),(none,0,0)):Nd)]:=b;obtain rfl:=eF.1 b;simp[cg,oe,d]
theorem JO{n m:Nat}{a:Ac (n+1)}{b:Ac (m+1)}(c:ay (n+2) (b9 n a) (m+2) (b9 m b)=true)(v:aD ⟨n+2,b9 n a⟩)(w:aD ⟨m+2,b9 m b⟩)(self:Int){k:Nat}{d:Dg}(y:PT (k+1) d):rh self a d=rh self b d/\∀h,rh self a d=some h->PT k h:=by
 obtain⟨_,e⟩:=bG c;have E:=λl j=>aU (n+1) (b9 n a) l v j;have F:=λl j=>aU (m+1) (b9 m b) l w j;have u:=cE _ _ _ e;obtain⟨d1,d2,d3⟩:=y;have i:∀{x:Tm (n+1)}{x':Tm (m+1)},x∈(b9 n a).2.2->x'∈(b9 m b).2.2->ay (n+1) x (m+1) x'=true->sO d.b self (n+1) x=sO d.b self (m+1) x':=λz A B=>FM d1 self (E _ z) (F _ A) B;rcases tp a with⟨f,o⟩|⟨f,o⟩|⟨f,o⟩|⟨f,o⟩<;>rcases tp b with⟨g,p⟩|⟨g,p⟩|⟨g,p⟩|⟨g,p⟩<;>rw[o,p]at u e i
 case inl.inl=>
  simp only[aC,aA,and_true]at e;have q:=i (x:=a.2.1.1) (x':=b.2.1.1) (by simp) (by simp) e.2.1;have r:=i (x:=a.2.1.2) (x':=b.2.1.2) (by simp) (by simp) e.2.2;unfold rh;rw[if_pos f,if_pos g,r];unfold nv;rw[q];refine⟨rfl,λh c=>?_⟩;obtain⟨G,_,c⟩:=bB.1 c;obtain⟨t,_,rfl⟩:=ci.1 c;exact⟨d1,d2,by simp only;omega⟩
 case inr.inl.inr.inl=>
  simp only[aC,aA,and_true]at e;have r:=i (x:=a.2.1.2) (x':=b.2.1.2) (by simp) (by simp) e.2.2.1;have C:a.2.2.1=b.2.2.1:=by
   have:=(bG e.2.1).1;simpa [aZ]using this
  have D:a.2.2.2=b.2.2.2:=by
   have:=(bG e.2.2.2).1;simpa [bR]using this
  unfold rh;rw[if_neg (show¬a.1=1 by omega),if_neg (show¬b.1=1 by omega),if_pos f,if_pos g,r,C,D];refine⟨rfl,λh c=>?_⟩;obtain⟨t,_,c⟩:=bB.1 c;split at c
  ·obtain rfl:=aw c;refine⟨λl j=>?_,by simp only;omega,by simp only;omega⟩;rcases sT j with s|s
   ·exact d1 l s
   ·rw[s];exact Hq (by omega)
  ·cases c
 case inr.inr.inl.inr.inr.inl=>
  simp only[aC,aA,and_true]at e;have q:=i (x:=a.2.1.1) (x':=b.2.1.1) (by simp) (by simp) e.2;unfold rh;rw[if_neg (show¬a.1=1 by omega),if_neg (show¬b.1=1 by omega),if_neg (show¬a.1=2 by omega),if_neg (show¬b.1=2 by omega),if_pos f,if_pos g];unfold nv;rw[q];refine⟨rfl,λh c=>?_⟩;obtain⟨G,_,rfl⟩:=ci.1 c;exact⟨d1,d2,by simp only;omega⟩
 case inr.inr.inr.inr.inr.inr=>
  unfold rh;rw[if_neg f.1,if_neg g.1,if_neg f.2.1,if_neg g.2.1,if_neg f.2.2,if_neg g.2.2];refine⟨rfl,λh c=>?_⟩;obtain rfl:=aw c;exact⟨d1,d2,by simp only;omega⟩
 all_goals exact absurd u (by simp)
theorem A5{n m:Nat}(self:Int):(l:List (Ac (n+1)))->(r:List (Ac (m+1)))->aC (λx y=>ay (n+2) x (m+2) y) (l.map (b9 n)) (r.map (b9 m))=true->(∀a∈l,aD ⟨n+2,b9 n a⟩)->(∀b∈r,aD ⟨m+2,b9 m b⟩)->∀{d:Dg},PT l.length d->qe self l d=qe self r d/\∀f,qe self l d=some f->∀y∈f.b,aD ⟨13,y⟩
 | [],[],_,_,_,d,hd=>⟨rfl,λf c=>by obtain rfl:=aw c;exact hd.1⟩
 | [],_::_,c,_,_,_,_=>by simp[aC]at c
 | _::_,[],c,_,_,_,_=>by simp[aC]at c
 | a::l,b::r,c,ha,hb,d,hd=>by
  simp only[aM,aC,aA]at c;obtain⟨h,i⟩:=JO c.1 (ha a (by simp)) (hb b (by simp)) self hd;unfold qe;rw[<-h];cases e:rh self a d with
  | none=>exact⟨rfl,λ_ c=>by cases c⟩
  | some f=>exact A5 self l r c.2 (λx g=>ha x (by simp[g])) (λx g=>hb x (by simp[g])) (i f e)
def Pa{n m:Nat}(c:Cl (n+1))(a:Cl (m+1)):Prop:=(ay (n+1) c.1.1 (m+1) a.1.1=true/\ay (n+1) c.1.2.1 (m+1) a.1.2.1=true/\ay (n+1) c.1.2.2 (m+1) a.1.2.2=true)/\aC (λx y=>ay (n+2) x (m+2) y) (c.2.2.map (b9 n)) (a.2.2.map (b9 m))=true
theorem oD{n m:Nat}{x:Tm (n+1)}{y:Tm (m+1)}(b:bv (n+1) x=0)(c:bv (m+1) y=0)(a:ay (n+3) (aS (n+3) (n+1) x) (m+3) (aS (m+3) (m+1) y)=true):ay (n+1) x (m+1) y=true:=
 bH _ _ _ _ _ _ (dJ _ _ _ _ (fx (n+3) (n+1) (by omega) x (aL.2 (bC.1 b).1))) (bH _ _ _ _ _ _ a (fx (m+3) (m+1) (by omega) y (aL.2 (bC.1 c).1)))
theorem Ml{n m:Nat}{c:Cl (n+1)}{a:Cl (m+1)}(f:ay (n+4) (dG n c) (m+4) (dG m a)=true)(b:pW c)(d:pW a):Pa c a:=by
 obtain⟨_,e⟩:=bG f;simp only[dG,cY,aC,aA,and_true]at e;obtain⟨_,g,h,i,j⟩:=e;exact⟨⟨oD b.1 d.1 g,oD b.2.1 d.2.1 h,oD b.2.2.1 d.2.2.1 j⟩,(bG i).2⟩
theorem Ma:ni.length=4/\∀y∈ni,CU y:=by
 refine⟨rfl,λy a=>?_⟩;simp only[ni,nO,cC]at a;obtain⟨c,b,rfl⟩:=a;rw[List.eq_of_mem_replicate b];exact⟨by kernel_rfl,ah rfl⟩
theorem Gw{n m:Nat}{c:Cl (n+1)}{e:Cl (m+1)}(f:Pa c e){s t:Tc}(j:bv 13 s=0/\aK 13 s=true)(k:bv 13 t=0/\aK 13 t=true):lq c s t=lq e s t/\∀b,lq c s t=some b->∀y∈b,aD ⟨13,y⟩:=by
 have r:ay 13 s 13 s=true:=fy _ _ (aL.2 (bC.1 j.1).1);have u:ay 13 t 13 t=true:=fy _ _ (aL.2 (bC.1 k.1).1);have a:=mh _ c.1.1 13 s _ e.1.1 13 s ni ni f.1.1 r uA;unfold lq;cases e1:gZ (n+1) c.1.1 13 s ni with
 | none=>
  rw[e1]at a;cases g:gZ (m+1) e.1.1 13 s ni with
  | none=>exact⟨rfl,λ_ f=>by cases f⟩
  | some _=>rw[g]at a;exact a.elim
 | some b=>
  rw[e1]at a;cases g:gZ (m+1) e.1.1 13 s ni with
  | none=>rw[g]at a;exact a.elim
  | some i=>
   rw[g]at a;have q:=kU CU ou _ c.1.1 13 s ⟨j.1,ai j.2⟩ _ _ Ma e1;have d:=mh _ c.1.2.1 13 t _ e.1.2.1 13 t b i f.1.2.1 u a;simp only[dA];cases e3:gZ (n+1) c.1.2.1 13 t b with
   | none=>
    rw[e3]at d;cases h:gZ (m+1) e.1.2.1 13 t i with
    | none=>exact⟨rfl,λ_ f=>by cases f⟩
    | some _=>rw[h]at d;exact d.elim
   | some x=>
    rw[e3]at d;cases h:gZ (m+1) e.1.2.1 13 t i with
    | none=>rw[h]at d;exact d.elim
    | some z=>
     rw[h]at d;refine⟨by simp only[mX];rw[JC d],λw l y o=>?_⟩;obtain rfl:=aw l;obtain⟨v,p,rfl⟩:=cC.1 o;exact aL.2 (bC.1 (nV ((kU CU ou _ c.1.2.1 13 t ⟨k.1,ai k.2⟩ _ _ q e3).2 v p).1)).1
theorem sf{n m:Nat}(name:ByteArray):(l:List (Bh (n+1)))->(r:List (Bh (m+1)))->aC (λx y=>ay (n+5) x (m+5) y) (l.map (dQ n)) (r.map (dQ m))=true->(f9 (n+1) name l=none/\f9 (m+1) name r=none)\/∃b a,f9 (n+1) name l=some b/\f9 (m+1) name r=some a/\aC (λx y=>ay (n+4) x (m+4) y) (b.2.2.map (dG n)) (a.2.2.map (dG m))=true/\b∈l/\a∈r
 | [],[],_=>ah ⟨rfl,rfl⟩
 | [],_::_,h=>by simp[aC]at h
 | _::_,[],h=>by simp[aC]at h
 | b::l,a::r,h=>by
  simp only[aM,aC,aA]at h;obtain⟨_,f⟩:=bG h.1;simp only[dQ,cY,aC,aA]at f;have e:b.1=a.1:=by
   have:=(bG f.2.1).1;simpa [aZ]using this
  unfold f9;rw[e];by_cases d:a.1=name
  ·rw[if_pos d,if_pos d];exact ai ⟨b,a,rfl,rfl,f.2.2,by simp,by simp⟩
  ·rw[if_neg d,if_neg d];rcases sf name l r h.2 with k|⟨c,g,i,j,o,p,q⟩
   ·exact ah k
   ·exact ai ⟨c,g,i,j,o,by simp[p],by simp[q]⟩
theorem xo{n m:Nat}{s t:Tc}(o:bv 13 s=0/\aK 13 s=true)(p:bv 13 t=0/\aK 13 t=true):(l:List (Cl (n+1)))->(r:List (Cl (m+1)))->aC (λx y=>ay (n+4) x (m+4) y) (l.map (dG n)) (r.map (dG m))=true->(∀c∈l,pW c)->(∀c∈r,pW c)->(l9 s t l=none/\l9 s t r=none)\/∃c a b,l9 s t l=some (c,b)/\l9 s t r=some (a,b)/\Pa c a/\(c∈l/\a∈r)/\∀y∈b,aD ⟨13,y⟩
 | [],[],_,_,_=>ah ⟨rfl,rfl⟩
 | [],_::_,h,_,_=>by simp[aC]at h
 | _::_,[],h,_,_=>by simp[aC]at h
 | c::l,a::r,h,hl,hr=>by
  simp only[aM,aC,aA]at h;have j:=Ml h.1 (hl c (by simp)) (hr a (by simp));obtain⟨g,i⟩:=Gw j o p;unfold l9;rw[<-g];cases e:lq c s t with
  | some b=>exact ai ⟨c,a,b,rfl,rfl,j,⟨by simp,by simp⟩,i b e⟩
  | none=>
   rcases xo o p l r h.2 (λx f=>hl x (by simp[f])) (λx f=>hr x (by simp[f]))with k|⟨d,u,b,g,i,v,q,w⟩
   ·exact ah k
   ·exact ai ⟨d,u,b,g,i,v,⟨by simp[q.1],by simp[q.2]⟩,w⟩
theorem uI{n m:Nat}{s:Tc}(k:bv 13 s=0/\aK 13 s=true){l:List (Cl (n+1))}{r:List (Cl (m+1))}(f:aC (λx y=>ay (n+4) x (m+4) y) (l.map (dG n)) (r.map (dG m))=true)(g:∀c∈l,pW c)(h:∀c∈r,pW c):(ms:List Tc)->(∀t∈ms,bv 13 t=0/\aK 13 t=true)->(i:Nat)->(sh l s ms i=none/\sh r s ms i=none)\/∃j c a b,sh l s ms i=some (j,c,b)/\sh r s ms i=some (j,a,b)/\Pa c a/\(c∈l/\a∈r)/\∀y∈b,aD ⟨13,y⟩
 | [],_,_=>ah ⟨rfl,rfl⟩
 | t::ms,ht,i=>by
  unfold sh;rcases xo k (ht t (by simp)) l r f g h with⟨d,e⟩|⟨c,a,b,d,e,p⟩
  ·rw[d,e];exact uI k f g h ms (λx o=>ht x (by simp[o])) (i+1)
  ·rw[d,e];exact ai ⟨i,c,a,b,rfl,rfl,p⟩
theorem FV{n:Nat}{c:Cl (n+1)}(d:bv (n+3) (cY (n+2) (c.2.2.map (b9 n)))=0):∀a∈c.2.2,aD ⟨n+2,b9 n a⟩:=λa b=>aL.2 (bC.1 (fF d (by simp only[cY];exact kI b))).1
theorem GC{n m:Nat}{c:Cl (n+1)}{f:Cl (m+1)}(h:Pa c f)(g:pW c/\∀a∈c.2.2,aD ⟨n+2,b9 n a⟩)(i:pW f/\∀a∈f.2.2,aD ⟨m+2,b9 m a⟩)(room self next:Int)(k:1<=next/\next<=92)(s t:Tc)(ms:List Tc){b:List Tc}(j:∀y∈b,aD ⟨13,y⟩):fm room self next s t ms c b=fm room self next s t ms f b:=by
 have p:=g.1.2.2.2.1;obtain⟨l,o⟩:=A5 self c.2.2 f.2.2 h.2 g.2 i.2 (d:=⟨b,next,[],[],[],false⟩) ⟨j,k.1,by simp only;omega⟩;unfold fm;rw[<-l];cases e:qe self c.2.2 ⟨b,next,[],[],[],false⟩with
 | none=>rfl
 | some d=>
  have:=FM (o d e) self (aL.2 (bC.1 g.1.2.2.1).1) (aL.2 (bC.1 i.1.2.2.1).1) h.1.2.2;simp only[this]
theorem xT{n:Nat}{p:List (Bh (n+1))}(d:ki n p=0):∀b∈p,∀c∈b.2.2,pW c/\∀a∈c.2.2,aD ⟨n+2,b9 n a⟩:=λb e c f=>by
 have g:=(dH d).2.1;have h:bv (n+5) (dQ n b)=0:=fF g (by simp only[bK,cY];exact bX _ (kI e));have i:bv (n+4) (dG n c)=0:=fF h (by simp only[dQ,cY];exact bX _ (bX _ (kI f)));exact⟨((FA d).2 b e).2 c f,FV (uG i 3 rfl)⟩
theorem we{n m:Nat}{P:List (Bh (n+1))}{Q:List (Bh (m+1))}(b:ay (n+6) (bK n P) (m+6) (bK m Q)=true):aC (λx y=>ay (n+5) x (m+5) y) (P.map (dQ n)) (Q.map (dQ m))=true:=by
 obtain⟨_,a⟩:=bG b;simp only[bK,cY,aC,aA]at a;exact a.2
theorem vm{n m:Nat}{P:List (Bh (n+1))}{Q:List (Bh (m+1))}(d:ay (n+6) (bK n P) (m+6) (bK m Q)=true)(nm:ByteArray):lf n P nm=lf m Q nm:=by
 unfold lf;rcases sf nm P Q (we d)with⟨a,c⟩|⟨b,e,a,c,_⟩<;>rw[a,c]<;>rfl
theorem Ij{n m:Nat}{P:List (Bh (n+1))}{Q:List (Bh (m+1))}(y:ay (n+6) (bK n P) (m+6) (bK m Q)=true)(z:ki n P=0)(A:ki m Q=0)(room:Int)(nm:ByteArray)(self next:Int)(B:1<=next/\next<=92){s:Tc}(w:bv 13 s=0/\aK 13 s=true){ms:List Tc}(v:∀t∈ms,bv 13 t=0/\aK 13 t=true):nA room P nm self next s ms=nA room Q nm self next s ms:=by
 have p:=xT z;have q:=xT A;have key:(sh (gf nm P) s ms 0=none/\sh (gf nm Q) s ms 0=none)\/∃f c a b,sh (gf nm P) s ms 0=some (f,c,b)/\sh (gf nm Q) s ms 0=some (f,a,b)/\Pa c a/\((pW c/\∀i∈c.2.2,aD ⟨n+2,b9 n i⟩)/\pW a/\∀i∈a.2.2,aD ⟨m+2,b9 m i⟩)/\∀H∈b,aD ⟨13,H⟩:=by
  unfold gf;rcases sf nm P Q (we y)with⟨d,e⟩|⟨b,u,d,e,o,g,h⟩
  ·rw[d,e];rcases uI w (l:=([]:List (Cl (n+1)))) (r:=([]:List (Cl (m+1)))) rfl (by simp) (by simp) ms v 0 with k|⟨_,_,_,_,_,_,_,k,_⟩
   ·exact ah k
   ·cases k.1
  ·rw[d,e];rcases uI w o (λc j=>(p b g c j).1) (λc j=>(q u h c j).1) ms v 0 with k|⟨f,c,a,G,C,D,E,x,F⟩
   ·exact ah k
   ·exact ai ⟨f,c,a,G,C,D,E,⟨p b g c x.1,q u h a x.2⟩,F⟩
 unfold nA;rcases key with⟨d,e⟩|⟨f,c,a,b,d,e,o,g,h⟩
 ·rw[d,e];rfl
 ·rw[d,e];simp only[dA];congr 1;funext t;exact GC o g.1 g.2 room self next B s t _ h
variable {P:Program} {md:Region.Mode} {ops:Array Oper} {Q:Exit->Act->World->Prop} {S:World->Prop} {X:Nat}
theorem LQ(i:Nat){d:Oper}{v:Value}{f:Nat}{e:Array Bool}{a:Act}{w:World}(l:ops[i]?=some d)(b:(Region.noSelect ops && Region.free md ops e i && (Region.ready md ops e).contains i && Aq md ops X i)=true)(h:∀c a w,Q (.panic c) (a.put d.dst v) w->Q (.panic c) a w)(k:d.guard=none)(m:∀w,S w->(execOp a.eval d).run P w=.ok (.value v) w)(j:S w)(g:jO P md ops Q S X f (e.setIfInBounds i true) (a.put d.dst v) w):jO P md ops Q S X (f+1) e a w:=by
 simp only[aA]at b;exact aT l b.1.1.1 b.1.1.2 b.1.2 b.2 h k m j g
theorem Kb:(Tryz.prog.info? 82).map (λi=>(i.zero,i.size,i.bytes))=some (some (.agg #[.string ⟨#[]⟩,.int .i64 0,.int .i64 0,.int .i64 0,.int .i64 0,.string ⟨#[]⟩,.slice none 0 0]),7,88):=by kernel_rfl
def NN(base:Nat)(wt:ByteArray)(a b:Int)(f:Option Addr)(L h:Nat)(xs:List Value)(R:World->World->Int->Int->ByteArray->Option Addr->Nat->Nat->Prop)(w i:World)(g c:Nat):Prop:=
 ∃d e y0 y1 y2 ya yl yc,Below w.heap.size w d/\Below d.heap.size d e/\R d e y0 y1 y2 ya yl yc/\br (λj=>(Value.slice f L h).ownBlock=some j) e i/\i.ownsRow base 82 7 (.slice (some ⟨g,0,none⟩) (L+1) c) (L+1) (xs++ [.string wt,.int .i64 a,.int .i64 b,.int .i64 y0,.int .i64 y1,.string y2,.slice ya yl yc])/\((Value.slice f L h).ownBlock=some g\/e.heap.size<=g)
theorem En(base m:Nat)(wt:ByteArray)(a b A B:Int)(C:ByteArray)(xa:Option Addr)(D xc:Nat)(n:Option Addr)(L q:Nat)(xs:List Value)(R:World->World->Int->Int->ByteArray->Option Addr->Nat->Nat->Prop)(w:World)(aU:L<=100000)(X:m<w.heap.size)(aV:base<=w.heap.size)(Z:Hid (w.cell? ⟨m,6,none⟩=some (.slice n L q)/\w.frozen? ⟨m,6,none⟩=false))(ah:Hid (w.ownsRow base 82 7 (.slice n L q) L xs))(ab:Hid ((Value.slice n L q).ownBlock≠some m))(aa:Hid (∀W,Below w.heap.size w W->Calls Tryz.prog 24 #[.agg #[.int .i64 A,.int .i64 B,.string C,.slice xa D xc]] W λe w'=>∃y0 y1 y2 ya yl yc,e=.returned (.agg #[.int .i64 y0,.int .i64 y1,.string y2,.slice ya yl yc])/\Hid (Below W.heap.size W w'/\R W w' y0 y1 y2 ya yl yc))):Calls Tryz.prog 68 #[.pointer (some ⟨m,0,none⟩),.string wt,.int .i64 a,.int .i64 b,.agg #[.int .i64 A,.int .i64 B,.string C,.slice xa D xc]] w λe w'=>e=.returned (.tuple #[])/\Hid (∃g c r,w'=r.setCell ⟨m,6,none⟩ (.slice (some ⟨g,0,none⟩) (L+1) c)/\NN base wt a b n L q xs R w r g c):=by
 obtain⟨aI,ao,aw,ax,ay⟩:=bP Kb;have M:=aq (⟨ao,aw,ax,ay⟩:_/\_/\_/\_);clear ao aw ax ay;go_enter func68,ntmps68;go_upto_region 1 with fail;generalize az:w.alloc _=s;have y:Hid (Below w.heap.size w s/\s.heap[w.heap.size]?=some (.cells #[.int .i64 A,.int .i64 B,.string C,.slice xa D xc] 28)):=by
  rw[<-az];exact⟨(ap _ _).alloc (ak _) _,aE _ _⟩
 clear az;obtain⟨h,T⟩:∃h,h=w.heap.size:=⟨_,rfl⟩;rw[<-T];rw[<-T]at y;have O:=aq T;clear T;have N:Hid (∀W:World,Below s.heap.size s W->W.cell? ⟨m,6,none⟩=some (.slice n L q)/\W.cell? ⟨h,0,none⟩=some (.int .i64 A)/\W.cell? ⟨h,1,none⟩=some (.int .i64 B)/\W.cell? ⟨h,2,none⟩=some (.string C)/\W.cell? ⟨h,3,none⟩=some (.slice xa D xc)):=λW d=>by
  have Q:=(d.block h (aF.1 y.2).1).trans y.2;have aC:=(O.out▸y.out.1:Below w.heap.size w s).trans (d.mono (O.out▸y.out.1:Below w.heap.size w s).size);exact⟨(aC.cell (p:=⟨m,6,none⟩) X).trans Z.1,ag Q 0,ag Q 1,ag Q 2,ag Q 3⟩
 have G:Hid (Below s.heap.size s s.drew):=(ap _ _).drew;have z:Hid (Below w.heap.size w s):=by
  have d:=y.1;rw[O.out]at d;exact d
 have u:=N _ G;refine wp_region_noPanic ?_;refine jB (λW=>W.cell? ⟨m,6,none⟩=some (.slice n L q)/\W.cell? ⟨h,0,none⟩=some (.int .i64 A)/\W.cell? ⟨h,1,none⟩=some (.int .i64 B)/\W.cell? ⟨h,2,none⟩=some (.string C)/\W.cell? ⟨h,3,none⟩=some (.slice xa D xc)) 15 (by kernel_rfl) ?_
 try simp only[fq]
 refine LQ 0 (v:= ?_) rfl (by kernel_rfl) (λ_ _ _ d=>d) rfl ?_ u ?_;rotate_left
 ·intro w' f
  try dsimp only at f
  go_simp
  try with_reducible rfl
 try simp only[Act.put,bY]
 refine LQ 1 (v:= ?_) rfl (by kernel_rfl) (λ_ _ _ d=>d) rfl ?_ u ?_;rotate_left
 ·intro w' f
  try dsimp only at f
  go_simp
  try with_reducible rfl
 try simp only[Act.put]
 refine LQ 2 (v:= ?_) rfl (by kernel_rfl) (λ_ _ _ d=>d) rfl ?_ u ?_;rotate_left
 ·intro w' f
  try dsimp only at f
  go_simp
  try with_reducible rfl
 try simp only[Act.put]
 refine LQ 3 (v:= ?_) rfl (by kernel_rfl) (λ_ _ _ d=>d) rfl ?_ u ?_;rotate_left
 ·intro w' f
  try dsimp only at f
  go_simp
  try with_reducible rfl
 try simp only[Act.put]
 refine LQ 4 (v:= ?_) rfl (by kernel_rfl) (λ_ _ _ d=>d) rfl ?_ u ?_;rotate_left
 ·intro w' f
  try dsimp only at f
  go_simp
  try with_reducible rfl
 try simp only[Act.put]
 refine LQ 5 (v:= ?_) rfl (by kernel_rfl) (λ_ _ _ d=>d) rfl ?_ u ?_;rotate_left
 ·intro w' f
  try dsimp only at f
  go_simp
  try with_reducible rfl
 try simp only[Act.put]
 refine LQ 6 (v:= ?_) rfl (by kernel_rfl) (λ_ _ _ d=>d) rfl ?_ u ?_;rotate_left
 ·intro w' f
  try dsimp only at f
  go_simp
  try with_reducible rfl
 try simp only[Act.put]
 refine LQ 7 (v:= ?_) rfl (by kernel_rfl) (λ_ _ _ d=>d) rfl ?_ u ?_;rotate_left
 ·intro w' f
  try dsimp only at f
  go_simp
  try with_reducible rfl
 try simp only[Act.put]
 refine LQ 8 (v:= ?_) rfl (by kernel_rfl) (λ_ _ _ d=>d) rfl ?_ u ?_;rotate_left
 ·intro w' f
  try dsimp only at f
  go_simp
  try with_reducible rfl
 try simp only[Act.put]
 refine cT (i:=9) (by kernel_rfl) rfl rfl (λx l=>?_) (by decide)
 go_simp
 refine(aa _ (z.trans (G.mono z.size))).mono ?_;rintro e j ⟨y0,y1,y2,ya,yl,yc,rfl,I⟩;have E:=aq (G.trans (I.1.mono G.size));have S:=N j E;refine l _ _ (λ_=>S) (λ_=>?_);clear l x
 try simp only[Act.put,bY,dj,di]
 refine LQ 10 (v:= ?_) rfl (by kernel_rfl) (λ_ _ _ d=>d) rfl ?_ S ?_;rotate_left
 ·intro w' f
  try dsimp only at f
  go_simp
  try with_reducible rfl
 try simp only[Act.put,bY]
 have F:=aq (z.trans (E.mono z.size));obtain⟨o,ar⟩:∃o:Obj,o=.cells #[.string wt,.int .i64 a,.int .i64 b,.int .i64 y0,.int .i64 y1,.string y2,.slice ya yl yc] 82:=⟨_,rfl⟩;have K:Hid (Below j.heap.size j (j.alloc o)):=(ap _ _).alloc (ak _) o;have ai:=aq (N _ (E.trans (K.mono E.size)));have ae:Hid ((j.alloc o).ownsRow base 82 7 (.slice n L q) L xs):=bi ah (aJ (F.trans (K.mono F.size)) λ_=>False) λ_ _ d=>d;have ad:Hid ((j.alloc o).heap[j.heap.size]?=some o):=aE j o;have U:Hid ((j.alloc o).heap.size=j.heap.size+1):=(show _=_ by simp);rw[ar]at K ai ae ad U;clear ar o;refine cT (i:=11) (by kernel_rfl) rfl rfl (λx l=>?_) (by decide)
 go_simp
 refine l _ _ (λ_=>ai) (λaB=>?_);clear l x
 try simp only[Act.put,bY,dj,di]
 refine cT (i:=12) (by kernel_rfl) rfl rfl (λx l=>?_) (by decide);refine wp_append_lies _ _ _ 44 rfl base 82 aI _ 7 88 underlying44 M.1 M.2.1 M.2.2.1 M.2.2.2 rfl (by decide) (.slice n L q) L xs rfl ae ⟨j.heap.size,0,none⟩ 1 1 [.string wt,.int .i64 a,.int .i64 b,.int .i64 y0,.int .i64 y1,.string y2,.slice ya yl yc] rfl rfl (World.news_of_block (cs:= #[.string wt,.int .i64 a,.int .i64 b,.int .i64 y0,.int .i64 y1,.string y2,.slice ya yl yc]) (t:=82) (fr:=(0,0)) ad) (by simp[Value.oneCell']) (by decide) (by unfold maxLen;omega) (by omega) (by have:=U.out;have:=F.size;omega) _ rfl ?_;intro P aj r au an al aD;have H:Hid (br (λaL=>(Value.slice n L q).ownBlock=some aL) j r):=br.trans (aJ K _) (eh an) λ_ _ e=>e;have Y:Hid ((Value.slice n L q).ownBlock=some P\/j.heap.size<=P):=al.imp id λe=>by have:=U.out;omega
 have af:=aq au;have J:Hid ((r.cell? ⟨m,6,none⟩=some (.slice n L q)/\r.cell? ⟨h,0,none⟩=some (.int .i64 A)/\r.cell? ⟨h,1,none⟩=some (.int .i64 B)/\r.cell? ⟨h,2,none⟩=some (.string C)/\r.cell? ⟨h,3,none⟩=some (.slice xa D xc))/\r.frozen? ⟨m,6,none⟩=false):=by
  have aG:¬(Value.slice n L q).ownBlock=some h:=λe=>by
   have:=(ah.lt h e).2;have:=O.out;omega
  have aH:h<j.heap.size:=by
   have:=E.size;have:=(aF.1 y.2).1;omega
  have av:m<j.heap.size:=aR X F.size;obtain⟨aM,aN,aO,aP,aQ⟩:=S;have k:=λaK=>H.cell aK aH aG;refine⟨⟨(H.cell 6 av ab).trans aM,(k 0).trans aN,(k 1).trans aO,(k 2).trans aP,(k 3).trans aQ⟩,?_⟩;have am:=Z.2;unfold World.frozen? at am ⊢;rw[H.out.block m av ab.out,F.out.block m X];exact am
 clear au an al aD;refine l _ _ (λ_=>J.1) (λV=>?_);clear l x
 try simp only[Act.put,bY]
 refine cT (i:=13) (by kernel_rfl) rfl rfl (λx l=>?_) (by decide)
 go_simp
 refine l _ _ (λ_=>V) (λ_=>?_);clear l x
 try simp only[Act.put,bY,dj,di]
 refine LQ 14 (v:= ?_) rfl (by kernel_rfl) (λ_ _ _ d=>d) rfl ?_ V ?_;rotate_left
 ·intro w' f
  try dsimp only at f
  go_simp
  try with_reducible rfl
 try simp only[Act.put,bY]
 have aT:=J.2;have aS:=J.1.1;refine jA (by kernel_rfl) rfl rfl (by kernel_rfl) (λx l=>?_)
 go_simp
 refine l _ _ (NoPanic.normal ?_);clear l x
 try simp only[Act.put,bY,dj,di]
 have aA:Hid (NN base wt a b n L q xs R w r P aj):=⟨s.drew,j,y0,y1,y2,ya,yl,yc,z.trans (G.mono z.size),I.1,I.2,H,af,Y⟩;clear N aa J af Y H I u V aB S;exact dZ (v:=.tuple #[]) (by simp[results]) rfl ⟨rfl,P,aj,r,rfl,aA⟩
end Go.Proofs.YtmmahddlcldmiaaGreatDoor
