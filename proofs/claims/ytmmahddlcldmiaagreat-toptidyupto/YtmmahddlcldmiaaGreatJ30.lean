/- Proved here: plain facts and contracts. No condition but what each names. -/
import Derived.Test.YtmmahddlcldmiaaGreatJ29
namespace Go.Proofs.YtmmahddlcldmiaaGreat
open Go.RowKit Go.Proofs.Tryz
set_option maxHeartbeats 4000000
set_option maxRecDepth 100000
abbrev jq(M:Nat)(o:Option (Cl (M+1)))(w:World)(e:Ending)(w':World):Prop:=qR (e9 (M+1)) (g8 (M+1)) (jT (M+1)) (CM (M+1)) o w e w'
def Qa(M:Nat):Cl (M+1):=((zT M,zT M,zT M),(none,0),[])
theorem lX{M:Nat}{o:Option (Cl (M+1))}{w w':World}(b:o=none)(a:aj w w'):jq M o w (.returned (.tuple #[.agg #[ab 0,ab 0,af .empty,ae none 0 0,ab 0,ab 0,af .empty,ae none 0 0,ae none 0 0,ab 0,ab 0,af .empty,ae none 0 0],.bool false])) w':=by
 subst b;exact⟨Qa M,false,rfl,a,rfl,⟨⟨lA _ _ _,lA _ _ _,lA _ _ _⟩,⟨am _,aH _⟩,ah rfl⟩,⟨⟨ah rfl,ah rfl,ah rfl⟩,ah rfl⟩,λd c=>by cases c⟩
theorem mG{n:Nat}{m:Tm (n+1)}(c:aD ⟨n+1,m⟩)(d:m.1.1=4):m.2.2.length<=8:=by
 have b:=c (bD n m) (by simp[ay,bD]);unfold cE at b;have a:(bD n m).1.1=4:=d;rw[if_neg (by rw[a];omega),if_neg (by rw[a];omega),if_neg (by rw[a];omega),if_pos a]at b;simp only[aG,cd]at b;have e:(m.2.2.length:Int)<=8:=b.1.2;omega
theorem tW{w:World}{q:Nat}{c0 b f g h i k l m n c d e:Value}{t:TypeId}(a:w.heap[q]?=some (.cells #[c0,b,f,g,h,i,k,l,m,n,c,d,e] t)):(w.cell? ⟨q,0,none⟩=some c0/\w.cell? ⟨q,1,none⟩=some b/\w.cell? ⟨q,2,none⟩=some f/\w.cell? ⟨q,3,none⟩=some g/\w.cell? ⟨q,4,none⟩=some h/\w.cell? ⟨q,5,none⟩=some i/\w.cell? ⟨q,6,none⟩=some k/\w.cell? ⟨q,7,none⟩=some l/\w.cell? ⟨q,8,none⟩=some m/\w.cell? ⟨q,9,none⟩=some n/\w.cell? ⟨q,10,none⟩=some c/\w.cell? ⟨q,11,none⟩=some d/\w.cell? ⟨q,12,none⟩=some e)/\(∀j,w.frozen? ⟨q,j,none⟩=false)/\q<w.heap.size:=
 ⟨⟨au a 0,au a 1,au a 2,au a 3,au a 4,au a 5,au a 6,au a 7,au a 8,au a 9,au a 10,au a 11,au a 12⟩,λj=>cV a j,(aF.1 a).1⟩
theorem tM(M _n:Nat)(k u:Int)(s:ByteArray)(xa:Option Addr)(i xc:Nat)(h:ByteArray)(a:Option Addr)(len c:Nat)(w:World)(o:Option (Cl (M+1)))(m:Hid (o=none))(p:(h.toList==[111,110])=false)(b:Hid (∀w1,aj w w1->ak 104 #[.agg #[ab k,ab u,af s,ae xa i xc]] w1 λe w'=>e=.returned (.tuple #[af h,ae a len c])/\aj w1 w')):ak 144 #[.agg #[ab k,ab u,af s,ae xa i xc]] w (jq M o w):=by
 go_enter func144,ntmps144;go_wp2_with fail;refine(b _ (by go_grown)).mono ?_;rintro e w1 ⟨rfl,d⟩;obtain⟨n,g,f,r⟩:=eC d;have j:=ap f;have l:=ap g;clear d n g f b;obtain⟨⟨d0,d1,d2,d3,d4,d5,d6,d7,d8,d9,d10,d11,d12⟩,f0,q⟩:=tW l;go_wp2_with fail;exact av (v:=.tuple #[.agg #[ab 0,ab 0,af .empty,ae none 0 0,ab 0,ab 0,af .empty,ae none 0 0,ae none 0 0,ab 0,ab 0,af .empty,ae none 0 0],.bool false]) (by simp[results,results144,go_sem,d0,d1,d2,d3,d4,d5,d6,d7,d8,d9,d10,d11,d12];rfl) rfl (lX m ((ru _ _ _ _ _ _ _ _ _ _ _ _ _ _ _).below j (by omega)))
theorem vH(M _n:Nat)(k u:Int)(s:ByteArray)(xa:Option Addr)(i xc:Nat)(h:ByteArray)(a:Option Addr)(len c:Nat)(w:World)(o:Option (Cl (M+1)))(m:Hid (o=none))(p:(h.toList==[111,110])=true)(_hl:((len:Int)==4)=false)(q:((len:Int) !=4)=true)(b:Hid (∀w1,aj w w1->ak 104 #[.agg #[ab k,ab u,af s,ae xa i xc]] w1 λe w'=>e=.returned (.tuple #[af h,ae a len c])/\aj w1 w')):ak 144 #[.agg #[ab k,ab u,af s,ae xa i xc]] w (jq M o w):=by
 go_enter func144,ntmps144;go_wp2_with fail;refine(b _ (by go_grown)).mono ?_;rintro e w1 ⟨rfl,d⟩;obtain⟨n,g,f,t⟩:=eC d;have j:=ap f;have l:=ap g;clear d n g f b;obtain⟨⟨d0,d1,d2,d3,d4,d5,d6,d7,d8,d9,d10,d11,d12⟩,f0,r⟩:=tW l;go_wp2_with fail;exact av (v:=.tuple #[.agg #[ab 0,ab 0,af .empty,ae none 0 0,ab 0,ab 0,af .empty,ae none 0 0,ae none 0 0,ab 0,ab 0,af .empty,ae none 0 0],.bool false]) (by simp[results,results144,go_sem,d0,d1,d2,d3,d4,d5,d6,d7,d8,d9,d10,d11,d12];rfl) rfl (lX m ((ru _ _ _ _ _ _ _ _ _ _ _ _ _ _ _).below j (by omega)))
theorem tK(M _n:Nat)(k u:Int)(s:ByteArray)(xa:Option Addr)(m xc:Nat)(l:ByteArray)(a po c:Nat)(w:World)(o:Option (Cl (M+1)))(p:Hid (o=none))(t:(l.toList==[111,110])=true)(q:a<w.heap.size)(j:Int)(f:w.cell? ⟨a,po+8,none⟩=some (ab j))(x:(j !=4)=true)(d:Hid (∀w1,aj w w1->ak 104 #[.agg #[ab k,ab u,af s,ae xa m xc]] w1 λe w'=>e=.returned (.tuple #[af l,ae (some ⟨a,po,none⟩) 4 c])/\aj w1 w')):ak 144 #[.agg #[ab k,ab u,af s,ae xa m xc]] w (jq M o w):=by
 go_enter func144,ntmps144;go_wp2_with fail;refine(d _ (by go_grown)).mono ?_;rintro e w1 ⟨rfl,g⟩;obtain⟨r,i,h,A⟩:=eC g;have b:=ap h;have n:=ap i;clear g r i h d;replace f:=(aq b _ _ q).trans f;have y:a<w1.heap.size:=by omega
 obtain⟨⟨d0,d1,d2,d3,d4,d5,d6,d7,d8,d9,d10,d11,d12⟩,f0,z⟩:=tW n;go_wp2_with fail;exact av (v:=.tuple #[.agg #[ab 0,ab 0,af .empty,ae none 0 0,ab 0,ab 0,af .empty,ae none 0 0,ae none 0 0,ab 0,ab 0,af .empty,ae none 0 0],.bool false]) (by simp[results,results144,go_sem,d0,d1,d2,d3,d4,d5,d6,d7,d8,d9,d10,d11,d12];rfl) rfl (lX p ((ru _ _ _ _ _ _ _ _ _ _ _ _ _ _ _).below b (by omega)))
theorem MS{n g a po:Nat}{w w':World}{y x t:Tm (n+1)}(d:a<g)(c:bK g w w')(k:(w.cell? ⟨a,po,none⟩=some (ab y.1.1)/\w.cell? ⟨a,po+1,none⟩=some (ab y.1.2.1)/\w.cell? ⟨a,po+2,none⟩=some (af y.1.2.2)/\w.cell? ⟨a,po+3,none⟩=some (ae y.2.1.1 y.2.2.length y.2.1.2))/\(w.cell? ⟨a,po+4,none⟩=some (ab x.1.1)/\w.cell? ⟨a,po+5,none⟩=some (ab x.1.2.1)/\w.cell? ⟨a,po+6,none⟩=some (af x.1.2.2)/\w.cell? ⟨a,po+7,none⟩=some (ae x.2.1.1 x.2.2.length x.2.1.2))/\(w.cell? ⟨a,po+12,none⟩=some (ab t.1.1)/\w.cell? ⟨a,po+13,none⟩=some (ab t.1.2.1)/\w.cell? ⟨a,po+14,none⟩=some (af t.1.2.2)/\w.cell? ⟨a,po+15,none⟩=some (ae t.2.1.1 t.2.2.length t.2.1.2))):(w'.cell? ⟨a,po,none⟩=some (ab y.1.1)/\w'.cell? ⟨a,po+1,none⟩=some (ab y.1.2.1)/\w'.cell? ⟨a,po+2,none⟩=some (af y.1.2.2)/\w'.cell? ⟨a,po+3,none⟩=some (ae y.2.1.1 y.2.2.length y.2.1.2))/\(w'.cell? ⟨a,po+4,none⟩=some (ab x.1.1)/\w'.cell? ⟨a,po+5,none⟩=some (ab x.1.2.1)/\w'.cell? ⟨a,po+6,none⟩=some (af x.1.2.2)/\w'.cell? ⟨a,po+7,none⟩=some (ae x.2.1.1 x.2.2.length x.2.1.2))/\(w'.cell? ⟨a,po+12,none⟩=some (ab t.1.1)/\w'.cell? ⟨a,po+13,none⟩=some (ab t.1.2.1)/\w'.cell? ⟨a,po+14,none⟩=some (af t.1.2.2)/\w'.cell? ⟨a,po+15,none⟩=some (ae t.2.1.1 t.2.2.length t.2.1.2)):=by
 have b:=λo=>fX c (show a≠g by omega) o;exact⟨⟨(b _).trans k.1.1,(b _).trans k.1.2.1,(b _).trans k.1.2.2.1,(b _).trans k.1.2.2.2⟩,⟨(b _).trans k.2.1.1,(b _).trans k.2.1.2.1,(b _).trans k.2.1.2.2.1,(b _).trans k.2.1.2.2.2⟩,(b _).trans k.2.2.1,(b _).trans k.2.2.2.1,(b _).trans k.2.2.2.2.1,(b _).trans k.2.2.2.2.2⟩
theorem tL(M n:Nat)(k u:Int)(s:ByteArray)(xa:Option Addr)(aS xc:Nat)(aR:ByteArray)(d po c:Nat)(w:World)(y x m t:Tm (n+1))(ai:n+1<=M+1)(ar:Option (List (Ac (M+1))))(o:Option (Cl (M+1)))(aI:Hid (o=ar.map λl=>((aT (M+1) (n+1) y,aT (M+1) (n+1) x,aT (M+1) (n+1) t),(none,0),l)))(bh:(aR.toList==[111,110])=true)(h:d<w.heap.size)(R:w.cell? ⟨d,po,none⟩=some (ab y.1.1))(S:w.cell? ⟨d,po+1,none⟩=some (ab y.1.2.1))(T:w.cell? ⟨d,po+2,none⟩=some (af y.1.2.2))(U:w.cell? ⟨d,po+3,none⟩=some (ae y.2.1.1 y.2.2.length y.2.1.2))(L:w.cell? ⟨d,po+4,none⟩=some (ab x.1.1))(N:w.cell? ⟨d,po+5,none⟩=some (ab x.1.2.1))(O:w.cell? ⟨d,po+6,none⟩=some (af x.1.2.2))(Q:w.cell? ⟨d,po+7,none⟩=some (ae x.2.1.1 x.2.2.length x.2.1.2))(Y:w.cell? ⟨d,po+8,none⟩=some (ab m.1.1))(al:w.cell? ⟨d,po+9,none⟩=some (ab m.1.2.1))(am:w.cell? ⟨d,po+10,none⟩=some (af m.1.2.2))(an:w.cell? ⟨d,po+11,none⟩=some (ae m.2.1.1 m.2.2.length m.2.1.2))(H:w.cell? ⟨d,po+12,none⟩=some (ab t.1.1))(I:w.cell? ⟨d,po+13,none⟩=some (ab t.1.2.1))(J:w.cell? ⟨d,po+14,none⟩=some (af t.1.2.2))(K:w.cell? ⟨d,po+15,none⟩=some (ae t.2.1.1 t.2.2.length t.2.1.2))(a6:m.1.1=4)(aC:Hid (∀w1,aj w w1->ak 104 #[.agg #[ab k,ab u,af s,ae xa aS xc]] w1 λe w'=>e=.returned (.tuple #[af aR,ae (some ⟨d,po,none⟩) 4 c])/\aj w1 w'))(aw:Hid (∀w1,aj w w1->ak 181 #[ae m.2.1.1 m.2.2.length m.2.1.2,.func (Fn.func 182) #[] #[]] w1 (lF 11 (f9 (M+1)) (iE (M+1)) (lZ (M+1)) (CS (M+1)) ar w1)))(ay:Hid (∀w1,aj w w1->ak 56 #[.agg #[ab y.1.1,ab y.1.2.1,af y.1.2.2,ae y.2.1.1 y.2.2.length y.2.1.2]] w1 λe w'=>∃a:Tm (n+1),e=.returned (.agg #[ab a.1.1,ab a.1.2.1,af a.1.2.2,ae a.2.1.1 a.2.2.length a.2.1.2])/\Hid (aj w1 w'/\In w'.heap.size w' (n+1) a/\ch (λq=>w1.heap.size<=q) (n+1) a/\ax (n+1) a (n+1) y=true)))(az:Hid (∀w1,aj w w1->ak 56 #[.agg #[ab x.1.1,ab x.1.2.1,af x.1.2.2,ae x.2.1.1 x.2.2.length x.2.1.2]] w1 λe w'=>∃a:Tm (n+1),e=.returned (.agg #[ab a.1.1,ab a.1.2.1,af a.1.2.2,ae a.2.1.1 a.2.2.length a.2.1.2])/\Hid (aj w1 w'/\In w'.heap.size w' (n+1) a/\ch (λq=>w1.heap.size<=q) (n+1) a/\ax (n+1) a (n+1) x=true)))(aA:Hid (∀w1,aj w w1->ak 56 #[.agg #[ab t.1.1,ab t.1.2.1,af t.1.2.2,ae t.2.1.1 t.2.2.length t.2.1.2]] w1 λe w'=>∃a:Tm (n+1),e=.returned (.agg #[ab a.1.1,ab a.1.2.1,af a.1.2.2,ae a.2.1.1 a.2.2.length a.2.1.2])/\Hid (aj w1 w'/\In w'.heap.size w' (n+1) a/\ch (λq=>w1.heap.size<=q) (n+1) a/\ax (n+1) a (n+1) t=true))):ak 144 #[.agg #[ab k,ab u,af s,ae xa aS xc]] w (jq M o w):=by
 go_enter func144,ntmps144;go_wp2_with fail;refine(aC _ (by go_grown)).mono ?_;rintro e w1 ⟨rfl,aE⟩;obtain⟨ba,aM,aF,bm⟩:=eC aE;have f:=ap aF;have aD:=ap aM;clear aE ba aM aF aC;replace R:=(aq f _ _ h).trans R;replace S:=(aq f _ _ h).trans S;replace T:=(aq f _ _ h).trans T;replace U:=(aq f _ _ h).trans U;replace L:=(aq f _ _ h).trans L;replace N:=(aq f _ _ h).trans N;replace O:=(aq f _ _ h).trans O;replace Q:=(aq f _ _ h).trans Q;replace Y:=(aq f _ _ h).trans Y;replace al:=(aq f _ _ h).trans al;replace am:=(aq f _ _ h).trans am;replace an:=(aq f _ _ h).trans an;replace H:=(aq f _ _ h).trans H;replace I:=(aq f _ _ h).trans I;replace J:=(aq f _ _ h).trans J;replace K:=(aq f _ _ h).trans K;have a8:d<w1.heap.size:=by omega
 rw[a6]at Y;go_wp2_with fail;refine(aw _ f).mono ?_;rintro e z ⟨l,j,r,au,rfl,aB⟩;have V:=ap aB.1;have A:Hid (aj w z):=f.trans (V.mono f.size);have aX:=ap ((V.block (w.heap.size+1) (by omega)).trans aD);have bi:w1.heap.size<=z.heap.size:=V.size;have a9:d<z.heap.size:=by omega
 have C:Hid (∀w',aj z w'->(w'.cell? ⟨d,po,none⟩=some (ab y.1.1)/\w'.cell? ⟨d,po+1,none⟩=some (ab y.1.2.1)/\w'.cell? ⟨d,po+2,none⟩=some (af y.1.2.2)/\w'.cell? ⟨d,po+3,none⟩=some (ae y.2.1.1 y.2.2.length y.2.1.2))/\(w'.cell? ⟨d,po+4,none⟩=some (ab x.1.1)/\w'.cell? ⟨d,po+5,none⟩=some (ab x.1.2.1)/\w'.cell? ⟨d,po+6,none⟩=some (af x.1.2.2)/\w'.cell? ⟨d,po+7,none⟩=some (ae x.2.1.1 x.2.2.length x.2.1.2))/\(w'.cell? ⟨d,po+12,none⟩=some (ab t.1.1)/\w'.cell? ⟨d,po+13,none⟩=some (ab t.1.2.1)/\w'.cell? ⟨d,po+14,none⟩=some (af t.1.2.2)/\w'.cell? ⟨d,po+15,none⟩=some (ae t.2.1.1 t.2.2.length t.2.1.2))):=λw' a0=>by
  have i:=λo=>(aq a0 d o a9).trans (aq V d o a8);exact⟨⟨(i _).trans R,(i _).trans S,(i _).trans T,(i _).trans U⟩,⟨(i _).trans L,(i _).trans N,(i _).trans O,(i _).trans Q⟩,(i _).trans H,(i _).trans I,(i _).trans J,(i _).trans K⟩
 obtain⟨X,ah⟩:∃X,l.length=X:=⟨_,rfl⟩;rw[ah];have aW:=ap ah;clear aw aD R S T U L N O Q Y al am an H I J K ah;obtain⟨⟨R,S,T,U⟩,⟨L,N,O,Q⟩,H,I,J,K⟩:=C.out z (ao _ _);go_wp2_with fail
 go_region_held3 (λw'=>(w'.cell? ⟨d,po,none⟩=some (ab y.1.1)/\w'.cell? ⟨d,po+1,none⟩=some (ab y.1.2.1)/\w'.cell? ⟨d,po+2,none⟩=some (af y.1.2.2)/\w'.cell? ⟨d,po+3,none⟩=some (ae y.2.1.1 y.2.2.length y.2.1.2))/\(w'.cell? ⟨d,po+4,none⟩=some (ab x.1.1)/\w'.cell? ⟨d,po+5,none⟩=some (ab x.1.2.1)/\w'.cell? ⟨d,po+6,none⟩=some (af x.1.2.2)/\w'.cell? ⟨d,po+7,none⟩=some (ae x.2.1.1 x.2.2.length x.2.1.2))/\(w'.cell? ⟨d,po+12,none⟩=some (ab t.1.1)/\w'.cell? ⟨d,po+13,none⟩=some (ab t.1.2.1)/\w'.cell? ⟨d,po+14,none⟩=some (af t.1.2.2)/\w'.cell? ⟨d,po+15,none⟩=some (ae t.2.1.1 t.2.2.length t.2.1.2))) (first|with_reducible assumption|with_reducible exact C.out _ B.out|with_reducible exact C.out _ G.out|with_reducible exact C.out _ F.out|with_reducible exact aV.out _ (ru _ _ _ _ _ _ _ _ _ _ _ _ _ _ _)|exact C.out _ (ao _ _).drew)
  ((first
   | (go_at_call 56;refine(ay _ A.drew).mono ?_;rintro e aP ⟨a,rfl,W⟩;have F:=ap (cM W.1);clear ay)
   | (go_at_call 56;refine(az _ (A.trans (F.mono A.size))).mono ?_;rintro e aQ ⟨q,rfl,D⟩;have G:=ap (F.trans (D.1.mono F.size));clear az)
   | (go_at_call 56;refine(aA _ (A.trans (G.mono A.size))).mono ?_;rintro e p ⟨g,rfl,E⟩;have B:=ap (G.trans (E.1.mono G.size));clear aA;have aY:=ap ((B.block (w.heap.size+1) (by omega)).trans aX);obtain⟨⟨d0,d1,d2,d3,d4,d5,d6,d7,d8,d9,d10,d11,d12⟩,f0,bl⟩:=tW aY;have aV:=ap (λaZ (a3:bK (w.heap.size+1) p aZ)=>MS (y:=y) (x:=x) (t:=t) (show d<w.heap.size+1 by omega) a3 (C _ B)))))
 go_wp2_with fail;have aU:Hid (aj w p):=A.trans (B.mono A.size);have bj:z.heap.size<=aP.heap.size:=F.size;have bk:z.heap.size<=aQ.heap.size:=G.size;have aL:=E.1;have aK:=D.1.trans (E.1.mono D.1.size);have Z:=iT (M:=M) ai ((W.2.1.below aK).mono aK.size) (W.2.2.1.mono λq (aJ:z.heap.size<=q)=>(show w.heap.size+1<q by omega)) W.2.2.2;have aa:=iT (M:=M) ai ((D.2.1.below aL).mono aL.size) (D.2.2.1.mono λq (aJ:aP.heap.size<=q)=>(show w.heap.size+1<q by omega)) D.2.2.2;have ad:=iT (M:=M) ai E.2.1 (E.2.2.1.mono λq (aJ:aQ.heap.size<=q)=>(show w.heap.size+1<q by omega)) E.2.2.2;refine av (v:=.tuple #[.agg #[ab a.1.1,ab a.1.2.1,af a.1.2.2,ae a.2.1.1 a.2.2.length a.2.1.2,ab q.1.1,ab q.1.2.1,af q.1.2.2,ae q.2.1.1 q.2.2.length q.2.1.2,ae j X r,ab g.1.1,ab g.1.2.1,af g.1.2.2,ae g.2.1.1 g.2.2.length g.2.1.2],.bool au]) (by simp[results,results144,go_sem,d0,d1,d2,d3,d4,d5,d6,d7,d8,d9,d10,d11,d12]) rfl ?_;have e:e9 (M+1) ((aT (M+1) (n+1) a,aT (M+1) (n+1) q,aT (M+1) (n+1) g),(j,r),l)=[ab a.1.1,ab a.1.2.1,af a.1.2.2,ae a.2.1.1 a.2.2.length a.2.1.2,ab q.1.1,ab q.1.2.1,af q.1.2.2,ae q.2.1.1 q.2.2.length q.2.1.2,ae j X r,ab g.1.1,ab g.1.2.1,af g.1.2.2,ae g.2.1.1 g.2.2.length g.2.1.2]:=by
  show iq (M+1) (aT (M+1) (n+1) a)++iq (M+1) (aT (M+1) (n+1) q)++(ae j l.length r::iq (M+1) (aT (M+1) (n+1) g))=_;rw[gq,gq,gq,aW.out];rfl
 have aO:∀w',bK (w.heap.size+1) p w'->jq M o w (.returned (.tuple #[.agg (e9 (M+1) ((aT (M+1) (n+1) a,aT (M+1) (n+1) q,aT (M+1) (n+1) g),(j,r),l)).toArray,.bool au])) w':=λw' aH=>by
  obtain⟨bn,bb,bc,bd,be,bf⟩:=aB;have ag:=cG (fJ (M+1)) 11 (f9 (M+1)) j;have a4:p8 p.heap.size p 11 (f9 (M+1)) (iE (M+1) p.heap.size p) j l:=ag.mono B.size (ag.below B bd);have a7:tD (lZ (M+1) (λb=>w.heap.size+1<b)) (λb=>w.heap.size+1<b) j l:=ag.1 _ _ _ (λb (a1:w1.heap.size<=b)=>(show w.heap.size+1<b by omega)) be;have a2:g8 (M+1) p.heap.size p ((aT (M+1) (n+1) a,aT (M+1) (n+1) q,aT (M+1) (n+1) g),(j,r),l):=⟨⟨Z.1,aa.1,ad.1⟩,bc,a4⟩;have aG:jT (M+1) (λb=>w.heap.size+1<b) ((aT (M+1) (n+1) a,aT (M+1) (n+1) q,aT (M+1) (n+1) g),(j,r),l):=⟨⟨Z.2.1,aa.2.1,ad.2.1⟩,a7⟩;refine⟨((aT (M+1) (n+1) a,aT (M+1) (n+1) q,aT (M+1) (n+1) g),(j,r),l),au,rfl,aH.below aU (by omega),?_,aH.stays (ey _) (P:=λb=>w.heap.size+1<b) (by omega) aG a2,(ey _).1 _ _ _ (λb (a1:w.heap.size+1<b)=>(show w.heap.size<=b by omega)) aG,λbo aN=>?_⟩
  ·rw[bb,aI.out];cases ar<;>rfl
  ·rw[aI.out]at aN;obtain⟨bg,a5,rfl⟩:=co.1 aN;exact⟨⟨Z.2.2,aa.2.2,ad.2.2⟩,bf bg a5⟩
 rw[e]at aO;exact aO _ (ru _ _ _ _ _ _ _ _ _ _ _ _ _ _ _)
theorem vG(M n:Nat)(ao:n<=M+1)(x:Tm n)(B:Nat)(w:World)(K:In B w n x)(Y:aD ⟨n,x⟩)(g:B<=w.heap.size):ak 144 #[dq n x] w (jq M (zF M n x) w):=by
 cases n with
 | zero=>exact K.elim
 | succ n=>
 obtain⟨G,c,i,an,am,m⟩:=rH n x B w K g;show ak 144 #[.agg #[ab x.1.1,ab x.1.2.1,af x.1.2.2,ae x.2.1.1 x.2.2.length x.2.1.2]] w (jq M (sG M n (fe n x) (bN n x)) w);have r:∀e∈bN n x,aD ⟨n,e⟩:=λe j=>eA Y j;generalize fe n x=b at*;generalize bN n x=d at*;have F:s9 b Lw=(b.toList==[111,110]):=ny b [111,110];have get:∀k,k<d.length->∃e,d[k]?=some e:=λk v=>⟨d[k],aI v⟩;by_cases f:(b.toList==[111,110])=true
 ·by_cases q:d.length=4
  ·obtain⟨e,j⟩:=get 0 (by omega);obtain⟨u,D⟩:=get 1 (by omega);obtain⟨a,y⟩:=get 2 (by omega);obtain⟨t,C⟩:=get 3 (by omega);have h:sG M n b d=if bU ⟨n,a⟩=4 then (cJ (sF M (n-1)) (EM n a)).map λl=>((aT (M+1) n e,aT (M+1) n u,aT (M+1) n t),(none,0),l)else none:=by
    unfold sG;rw[if_pos (by rw[F,f,q];rfl),j,D,y,C];rfl
   rw[q]at m;obtain⟨N,po,rfl⟩:=rz i (by omega);cases n with
   | zero=>exact(r7 i j).elim
   | succ n=>
   obtain⟨⟨O,P,Q,R⟩,aa,ap⟩:=im i j;obtain⟨⟨d0,d1,d2,d3⟩,ad,_⟩:=im i D;obtain⟨⟨L,ag,ah,ai⟩,I,_⟩:=im i y;obtain⟨⟨S,T,U,V⟩,Z,_⟩:=im i C;by_cases o:a.1.1=4
   ·have A:sG M (n+1) b d=(cJ (sF M n) a.2.2).map λl=>((aT (M+1) (n+1) e,aT (M+1) (n+1) u,aT (M+1) (n+1) t),(none,0),l):=by
      rw[h,if_pos (show bU ⟨n+1,a⟩=4 from o)];rfl
    have J:=r a (aJ y);have X:a.2.2.length<=8:=by
     exact mG J o
    exact tL M n _ _ _ _ _ _ b N po c w e u a t (by omega) (cJ (sF M n) a.2.2) _ A f (by omega) (by simpa using O) (by simpa using P) (by simpa using Q) (by simpa using R) (by simpa using d0) (by simpa using d1) (by simpa using d2) (by simpa using d3) (by simpa using L) (by simpa using ag) (by simpa using ah) (by simpa using ai) (by simpa using S) (by simpa using T) (by simpa using U) (by simpa using V) o m
     (λaj p=>zM M n a.2.2 a.2.2.length rfl X a.2.1.1 a.2.1.2 B aj ((show fH B w n a.2.2 a.2.1.1 from I.2).below (p.mono g)) (az g p.size) (λE s al W=>by
      have H:=p.trans (W.mono p.size);obtain⟨k,v⟩:=cW s;rcases I.2 with z|⟨_,_,_,_,z⟩
      ·rw[z]at s;cases s
      ·exact BW M n (by omega) E B al ((z k E v).2.below (H.mono g)) (aV n a E J s) (az g H.size)))
     (mm aa (r e (aJ j)) g) (mm ad (r u (aJ D)) g) (mm Z (r t (aJ C)) g)
   ·have A:sG M (n+1) b d=none:=by rw[h,if_neg (show¬bU ⟨n+1,a⟩=4 from o)]
    exact tK M n _ _ _ _ _ _ b N po c w _ A f (by omega) a.1.1 (by simpa using L) (by simpa using o) m
  ·have h:sG M n b d=none:=by simp[sG,q]
   exact vH M n _ _ _ _ _ _ b G d.length c w _ h f (vj q) (by simp;omega) m
 replace f:=oJ f;have h:sG M n b d=none:=by simp[sG,F,f]
 exact tM M n _ _ _ _ _ _ b G d.length c w _ h f m
abbrev pN(M:Nat)(o:Option (Bh (M+1)))(w:World)(e:Ending)(w':World):Prop:=qR (pH (M+1)) (pE (M+1)) (jS (M+1)) (yH (M+1)) o w e w'
theorem xJ{n:Nat}{x:Tm (n+1)}(b:aD ⟨n+1,x⟩):(bN n x).length<=8:=by
 unfold bN;split
 ·rename_i a;have:=mG b a;split
  ·split
   ·rw[eZ];omega
   ·simp
  ·simp
 ·simp
theorem Kb{n:Nat}{a:Tm (n+1)}(d:aD ⟨n+1,a⟩)(b:a.1.1=2):a.1.2.2.size<=2048:=by
 have:=d (bD n a) (by simp[ay,bD]);have c:dQ a.1.2.2=true:=by
  simp only[cE,bD,b]at this;simp at this;exact this.1.1
 simp only[dQ,qK,aG,cd]at c;omega
theorem Bn{n B:Nat}{w:World}{q:List (Tm n)}{a:Option Addr}(b:fH B w n q a){y:Tm n}(c:y∈q):In B w n y:=by
 rcases b with b|⟨_,_,_,_,b⟩
 ·subst b;cases c
 ·obtain⟨e,d⟩:=cW c;exact(b e y d).2
theorem qw{M:Nat}{o:Option (Bh (M+1))}{w w':World}(b:o=none)(a:aj w w'):pN M o w (.returned (.tuple #[.agg #[af .empty,ae none 0 0],.bool false])) w':=by
 subst b;exact⟨(.empty,(none,0),[]),false,rfl,a,rfl,⟨aH _,⟨am _,aH _⟩,ah rfl⟩,ah rfl,λd c=>by cases c⟩
theorem zP(M _n:Nat)(k u:Int)(s:ByteArray)(xa:Option Addr)(j xc:Nat)(i:ByteArray)(a:Option Addr)(len c:Nat)(w:World)(o:Option (Bh (M+1)))(m:Hid (o=none))(q:(i.toList==[98,101,104])=false)(d:Hid (∀w1,aj w w1->ak 104 #[.agg #[ab k,ab u,af s,ae xa j xc]] w1 λe w'=>e=.returned (.tuple #[af i,ae a len c])/\aj w1 w')):ak 106 #[.agg #[ab k,ab u,af s,ae xa j xc]] w (pN M o w):=by
 go_enter func106,ntmps106;go_wp2_with fail;refine(d _ (by go_grown)).mono ?_;rintro e w1 ⟨rfl,f⟩;obtain⟨n,h,g,t⟩:=eC f;have l:=ap g;have b:=ap h;clear f n h g d;have d0:w1.cell? ⟨w.heap.size+1,0,none⟩=some (af ⟨#[]⟩):=au b 0;have d1:w1.cell? ⟨w.heap.size+1,1,none⟩=some (ae none 0 0):=au b 1;have f0:=λp=>cV b p;have r:w.heap.size+1<w1.heap.size:=(aF.1 b).1;go_wp2_with fail;exact av (v:=.tuple #[.agg #[af .empty,ae none 0 0],.bool false]) (by simp[results,results106,go_sem,d0,d1];rfl) rfl (qw m ((bK.set (bK.set (bK.refl _ _) _ _) _ _).below l (by omega)))
theorem BY(M _n:Nat)(k u:Int)(s:ByteArray)(xa:Option Addr)(j xc:Nat)(i:ByteArray)(a:Option Addr)(len c:Nat)(w:World)(o:Option (Bh (M+1)))(m:Hid (o=none))(q:(i.toList==[98,101,104])=true)(r:(len:Int)<1)(d:Hid (∀w1,aj w w1->ak 104 #[.agg #[ab k,ab u,af s,ae xa j xc]] w1 λe w'=>e=.returned (.tuple #[af i,ae a len c])/\aj w1 w')):ak 106 #[.agg #[ab k,ab u,af s,ae xa j xc]] w (pN M o w):=by
 go_enter func106,ntmps106;go_wp2_with fail;refine(d _ (by go_grown)).mono ?_;rintro e w1 ⟨rfl,f⟩;obtain⟨n,h,g,x⟩:=eC f;have l:=ap g;have b:=ap h;clear f n h g d;have d0:w1.cell? ⟨w.heap.size+1,0,none⟩=some (af ⟨#[]⟩):=au b 0;have d1:w1.cell? ⟨w.heap.size+1,1,none⟩=some (ae none 0 0):=au b 1;have f0:=λp=>cV b p;have t:w.heap.size+1<w1.heap.size:=(aF.1 b).1;go_wp2_with fail;exact av (v:=.tuple #[.agg #[af .empty,ae none 0 0],.bool false]) (by simp[results,results106,go_sem,d0,d1];rfl) rfl (qw m ((bK.set (bK.set (bK.refl _ _) _ _) _ _).below l (by omega)))
theorem zN(M _n:Nat)(k u:Int)(s:ByteArray)(xa:Option Addr)(n xc:Nat)(m:ByteArray)(b po len c:Nat)(w:World)(o:Option (Bh (M+1)))(p:Hid (o=none))(x:(m.toList==[98,101,104])=true)(z:¬(len:Int)<1)(A:(0:Int)<(len:Int))(q:b<w.heap.size)(l:Int)(g:w.cell? ⟨b,po,none⟩=some (ab l))(y:(l !=2)=true)(f:Hid (∀w1,aj w w1->ak 104 #[.agg #[ab k,ab u,af s,ae xa n xc]] w1 λe w'=>e=.returned (.tuple #[af m,ae (some ⟨b,po,none⟩) len c])/\aj w1 w')):ak 106 #[.agg #[ab k,ab u,af s,ae xa n xc]] w (pN M o w):=by
 go_enter func106,ntmps106;go_wp2_with fail;refine(f _ (by go_grown)).mono ?_;rintro e w1 ⟨rfl,h⟩;obtain⟨r,j,i,D⟩:=eC h;have d:=ap i;have a:=ap j;clear h r j i f;replace g:=(aq d _ _ q).trans g;have B:b<w1.heap.size:=by omega
 have d0:w1.cell? ⟨w.heap.size+1,0,none⟩=some (af ⟨#[]⟩):=au a 0;have d1:w1.cell? ⟨w.heap.size+1,1,none⟩=some (ae none 0 0):=au a 1;have f0:=λt=>cV a t;have C:w.heap.size+1<w1.heap.size:=(aF.1 a).1;go_wp2_with fail;exact av (v:=.tuple #[.agg #[af .empty,ae none 0 0],.bool false]) (by simp[results,results106,go_sem,d0,d1];rfl) rfl (qw p ((bK.set (bK.set (bK.refl _ _) _ _) _ _).below d (by omega)))
theorem BZ(M _n:Nat)(k u:Int)(s:ByteArray)(xa:Option Addr)(S xc:Nat)(R:ByteArray)(d po:Nat)(w:World)(y2:ByteArray)(ad:y2.size<=2048)(t:Option (List (Cl (M+1))))(o:Option (Bh (M+1)))(K:Hid (o=t.map λl=>(y2,(none,0),l)))(aw:(R.toList==[98,101,104])=true)(L:d<w.heap.size)(m:w.cell? ⟨d,po,none⟩=some (ab 2))(n:w.cell? ⟨d,po+2,none⟩=some (af y2))(D:Hid (∀w1,aj w w1->ak 104 #[.agg #[ab k,ab u,af s,ae xa S xc]] w1 λe w'=>e=.returned (.tuple #[af R,ae (some ⟨d,po,none⟩) 1 1])/\aj w1 w'))(z:Hid (∀w1,aj w w1->ak 143 #[ae (some ⟨d,po,none⟩) 0 0,.func (Fn.func 144) #[] #[]] w1 (lF 13 (e9 (M+1)) (g8 (M+1)) (jT (M+1)) (CM (M+1)) t w1))):ak 106 #[.agg #[ab k,ab u,af s,ae xa S xc]] w (pN M o w):=by
 go_enter func106,ntmps106;go_wp2_with fail;refine(D _ (by go_grown)).mono ?_;rintro e w1 ⟨rfl,G⟩;obtain⟨aa,O,H,aA⟩:=eC G;have f:=ap H;have E:=ap O;clear G aa O H D;replace m:=(aq f _ _ L).trans m;replace n:=(aq f _ _ L).trans n;have N:d<w1.heap.size:=by omega
 go_wp2_with fail;refine(z _ f).mono ?_;rintro e y ⟨l,c,i,x,rfl,C⟩;have g:=ap C.1;have A:Hid (aj w y):=f.trans (g.mono f.size);have F:=ap ((g.block (w.heap.size+1) (by omega)).trans E);have ax:w1.heap.size<=y.heap.size:=g.size;have ay:d<y.heap.size:=by omega
 replace m:=(aq g _ _ N).trans m;replace n:=(aq g _ _ N).trans n;obtain⟨j,r⟩:∃j,l.length=j:=⟨_,rfl⟩;rw[r];have U:=ap r;clear z E r;go_wp2_with fail;refine(dR _ _ ad).mono ?_;rintro e a ⟨rfl,p⟩;have B:=ap p;have T:Hid (aj w a):=A.trans (p.mono A.size);have h:=ap ((p.block (w.heap.size+1) (by omega)).trans F);have d0:a.cell? ⟨w.heap.size+1,0,none⟩=some (af ⟨#[]⟩):=au h 0;have d1:a.cell? ⟨w.heap.size+1,1,none⟩=some (ae none 0 0):=au h 1;have f0:=λag=>cV h ag;have az:w.heap.size+1<a.heap.size:=(aF.1 h).1;clear p F h;go_wp2_with fail;refine av (v:=.tuple #[.agg #[af y2,ae c j i],.bool x]) (by simp[results,results106,go_sem,d0,d1]) rfl ?_;have ao:∀w',bK (w.heap.size+1) a w'->pN M o w (.returned (.tuple #[.agg #[af y2,ae c j i],.bool x])) w':=λw' J=>by
  obtain⟨aB,ah,ai,al,am,an⟩:=C;have q:=cG (ey (M+1)) 13 (e9 (M+1)) c;have X:p8 a.heap.size a 13 (e9 (M+1)) (g8 (M+1) a.heap.size a) c l:=q.mono B.size (q.below B al);have Z:tD (jT (M+1) (λb=>w.heap.size+1<b)) (λb=>w.heap.size+1<b) c l:=q.1 _ _ _ (λb (V:w1.heap.size<=b)=>(show w.heap.size+1<b by omega)) am;have W:pE (M+1) a.heap.size a (y2,(c,i),l):=⟨(show y2.size<=maxLen by unfold maxLen;omega),ai,X⟩;have I:jS (M+1) (λb=>w.heap.size+1<b) (y2,(c,i),l):=Z;refine⟨(y2,(c,i),l),x,by rw[<-U.out];rfl,J.below T (by omega),?_,J.stays (dV _) (P:=λb=>w.heap.size+1<b) (by omega) I W,(dV _).1 _ _ _ (λb (V:w.heap.size+1<b)=>(show w.heap.size<=b by omega)) I,λaC Q=>?_⟩
  ·rw[ah,K.out];cases t<;>rfl
  ·rw[K.out]at Q;obtain⟨ar,Y,rfl⟩:=co.1 Q;exact⟨rfl,an ar Y⟩
 exact ao _ (bK.set (bK.set (bK.refl _ _) _ _) _ _)
theorem zO(M _n:Nat)(k u:Int)(s:ByteArray)(xa:Option Addr)(V xc:Nat)(U:ByteArray)(f po L c:Nat)(w:World)(y2:ByteArray)(ah:y2.size<=2048)(x:Option (List (Cl (M+1))))(o:Option (Bh (M+1)))(O:Hid (o=x.map λl=>(y2,(none,0),l)))(ay:(U.toList==[98,101,104])=true)(Q:f<w.heap.size)(_hl:¬(L:Int)<1)(N:(0:Int)<(L:Int))(aB:(1:Int)<=(L:Int))(_hlc:(L:Int)<=(c:Int))(aA:¬c=1)(_hcm:(c:Int)<=9223372036854775807)(n:w.cell? ⟨f,po,none⟩=some (ab 2))(p:w.cell? ⟨f,po+2,none⟩=some (af y2))(E:Hid (∀w1,aj w w1->ak 104 #[.agg #[ab k,ab u,af s,ae xa V xc]] w1 λe w'=>e=.returned (.tuple #[af U,ae (some ⟨f,po,none⟩) L c])/\aj w1 w'))(A:Hid (∀w1,aj w w1->ak 143 #[ae (some ⟨f,po+4,none⟩) (L-1) (c-1),.func (Fn.func 144) #[] #[]] w1 (lF 13 (e9 (M+1)) (g8 (M+1)) (jT (M+1)) (CM (M+1)) x w1))):ak 106 #[.agg #[ab k,ab u,af s,ae xa V xc]] w (pN M o w):=by
 go_enter func106,ntmps106;go_wp2_with fail;refine(E _ (by go_grown)).mono ?_;rintro e w1 ⟨rfl,H⟩;obtain⟨ag,S,I,aE⟩:=eC H;have g:=ap I;have F:=ap S;clear H ag S I E;replace n:=(aq g _ _ Q).trans n;replace p:=(aq g _ _ Q).trans p;have R:f<w1.heap.size:=by omega
 go_wp2_with fail;refine(A _ g).mono ?_;rintro e z ⟨l,d,j,y,rfl,D⟩;have h:=ap D.1;have B:Hid (aj w z):=g.trans (h.mono g.size);have G:=ap ((h.block (w.heap.size+1) (by omega)).trans F);have az:w1.heap.size<=z.heap.size:=h.size;have aC:f<z.heap.size:=by omega
 replace n:=(aq h _ _ R).trans n;replace p:=(aq h _ _ R).trans p;obtain⟨m,t⟩:∃m,l.length=m:=⟨_,rfl⟩;rw[t];have X:=ap t;clear A F t;go_wp2_with fail;refine(dR _ _ ah).mono ?_;rintro e a ⟨rfl,q⟩;have C:=ap q;have W:Hid (aj w a):=B.trans (q.mono B.size);have i:=ap ((q.block (w.heap.size+1) (by omega)).trans G);have d0:a.cell? ⟨w.heap.size+1,0,none⟩=some (af ⟨#[]⟩):=au i 0;have d1:a.cell? ⟨w.heap.size+1,1,none⟩=some (ae none 0 0):=au i 1;have f0:=λai=>cV i ai;have aD:w.heap.size+1<a.heap.size:=(aF.1 i).1;clear q G i;go_wp2_with fail;refine av (v:=.tuple #[.agg #[af y2,ae d m j],.bool y]) (by simp[results,results106,go_sem,d0,d1]) rfl ?_;have aw:∀w',bK (w.heap.size+1) a w'->pN M o w (.returned (.tuple #[.agg #[af y2,ae d m j],.bool y])) w':=λw' K=>by
  obtain⟨aG,al,am,an,ao,ar⟩:=D;have r:=cG (ey (M+1)) 13 (e9 (M+1)) d;have aa:p8 a.heap.size a 13 (e9 (M+1)) (g8 (M+1) a.heap.size a) d l:=r.mono C.size (r.below C an);have ad:tD (jT (M+1) (λb=>w.heap.size+1<b)) (λb=>w.heap.size+1<b) d l:=r.1 _ _ _ (λb (Y:w1.heap.size<=b)=>(show w.heap.size+1<b by omega)) ao;have Z:pE (M+1) a.heap.size a (y2,(d,j),l):=⟨(show y2.size<=maxLen by unfold maxLen;omega),am,aa⟩;have J:jS (M+1) (λb=>w.heap.size+1<b) (y2,(d,j),l):=ad;refine⟨(y2,(d,j),l),y,by rw[<-X.out];rfl,K.below W (by omega),?_,K.stays (dV _) (P:=λb=>w.heap.size+1<b) (by omega) J Z,(dV _).1 _ _ _ (λb (Y:w.heap.size+1<b)=>(show w.heap.size<=b by omega)) J,λaH T=>?_⟩
  ·rw[al,O.out];cases x<;>rfl
  ·rw[O.out]at T;obtain⟨ax,N,rfl⟩:=co.1 T;exact⟨rfl,ar ax N⟩
 exact aw _ (bK.set (bK.set (bK.refl _ _) _ _) _ _)
theorem BX(M n:Nat)(Z:n<=M+1)(x:Tm n)(B:Nat)(w:World)(K:In B w n x)(H:aD ⟨n,x⟩)(p:B<=w.heap.size):ak 106 #[dq n x] w (pN M (zD M n x) w):=by
 cases n with
 | zero=>exact K.elim
 | succ n=>
 obtain⟨D,c,h,S,Y,k⟩:=rH n x B w K p;show ak 106 #[.agg #[ab x.1.1,ab x.1.2.1,af x.1.2.2,ae x.2.1.1 x.2.2.length x.2.1.2]] w (pN M (tJ M n (fe n x) (bN n x)) w);have I:∀d∈bN n x,aD ⟨n,d⟩:=λd U=>eA H U;have R:(bN n x).length<=8:=xJ H;generalize fe n x=e at*;generalize bN n x=a at*;have A:s9 e tT=(e.toList==[98,101,104]):=ny e [98,101,104];by_cases f:(e.toList==[98,101,104])=true
 ·cases a with
  | nil=>
   have g:tJ M n e []=none:=by simp[tJ]
   exact BY M n _ _ _ _ _ _ e D 0 c w _ g f (by omega) k
  | cons d a=>
   obtain⟨q,po,rfl⟩:=rz h (by simp);cases n with
   | zero=>exact(r7 h (show (d::a)[0]?=some d from rfl)).elim
   | succ n=>
   obtain⟨⟨m,W,E,X⟩,ad,aa⟩:=im h (show (d::a)[0]?=some d from rfl);by_cases i:d.1.1=2
   ·have g:tJ M (n+1) e (d::a)=(cJ (zF M (n+1)) a).map λl=>(d.1.2.2,(none,0),l):=by
      simp[tJ,A,f,bU,i,xx,gj,bD]
    have J:d.1.2.2.size<=2048:=Kb (I d (by simp)) i;have G:fH B w (n+1) a (some ⟨q,po+4,none⟩):=by
     rcases h with h|⟨b,o,v,t,h⟩
     ·cases h
     ·injection v with v;injection v with O P;subst O P
      exact ai ⟨q,po+4,rfl,t,λz j y=>by
       have:=h (z+1) j (by simpa using y);rw[show po+4+z*4=po+(z+1)*4 by omega]
       exact this⟩
    have C:∀(j:Option Addr)(u:Nat),fH B w (n+1) a j->∀r,aj w r->ak 143 #[ae j a.length u,.func (Fn.func 144) #[] #[]] r (lF 13 (e9 (M+1)) (g8 (M+1)) (jT (M+1)) (CM (M+1)) (cJ (zF M (n+1)) a) r):=λj u y r s=>
     tN M (n+1) a a.length rfl (by simp at R;omega) j u B r (y.below (s.mono p)) (az p s.size) (λN L V Q=>by
      have t:=s.trans (Q.mono s.size)
      exact vG M (n+1) (by omega) N B V ((Bn G L).below (t.mono p)) (I N (by simp[L])) (az p t.size))
    by_cases F:c=1
    ·have T:a=[]:=bE (by simp at S;omega);subst T F;exact BZ M (n+1) _ _ _ _ _ _ e q po w d.1.2.2 J _ _ g f (by omega) (by rw[i]at m;simpa using m) (by simpa using E) k (C _ 0 (ah rfl))
    ·exact zO M (n+1) _ _ _ _ _ _ e q po (d::a).length c w d.1.2.2 J _ _ g f (by omega) (by simp only[bi];omega) (by simp only[bi];omega) (by simp only[bi];omega) (by omega) F (by omega) (by rw[i]at m;simpa using m) (by simpa using E) k (C _ (c-1) G)
   ·have g:tJ M (n+1) e (d::a)=none:=by simp[tJ,bU,i]
    exact zN M (n+1) _ _ _ _ _ _ e q po (d::a).length c w _ g f (by simp only[bi];omega) (by simp only[bi];omega) (by omega) d.1.1 (by simpa using m) (by simpa using i) k
 replace f:=oJ f;have g:tJ M n e a=none:=by simp[tJ,A,f]
 exact zP M n _ _ _ _ _ _ e D a.length c w _ g f k
abbrev uq(M:Nat)(o:Option (List (Bh (M+1))))(w:World)(e:Ending)(w':World):Prop:=lF 2 (pH (M+1)) (pE (M+1)) (jS (M+1)) (yH (M+1)) o w e w'
theorem BU{M:Nat}{o:Option (List (Bh (M+1)))}{w w':World}(b:o=none)(a:aj w w'):uq M o w (.returned (.tuple #[ae none 0 0,.bool false])) w':=by
 subst b;exact⟨[],none,0,false,rfl,a,rfl,⟨am _,aH _⟩,ah rfl,ah rfl,λd c=>by cases c⟩
theorem wL(M _n:Nat)(k u:Int)(s:ByteArray)(xa:Option Addr)(t xc:Nat)(r:ByteArray)(a:Option Addr)(len c:Nat)(w:World)(o:Option (List (Bh (M+1))))(b:Bool)(H:(r.toList==[99,111,100,101])=b)(p:Hid (b=false->o=none))(m:Hid (∀w1,aj w w1->ak 104 #[.agg #[ab k,ab u,af s,ae xa t xc]] w1 λe w'=>e=.returned (.tuple #[af r,ae a len c])/\aj w1 w'))(j:Hid (b=true->∀w1,aj w w1->ak 105 #[ae a len c,.func (Fn.func 106) #[] #[]] w1 (uq M o w1))):ak 67 #[.agg #[ab k,ab u,af s,ae xa t xc]] w (uq M o w):=by
 cases b
 ·have HB:Hid (o=none):=p rfl;go_enter func67,ntmps67;go_wp2_with fail;refine(m _ (by go_grown)).mono ?_;rintro e w1 ⟨rfl,f⟩;have d:Hid (aj w w1):=aO.trans (f.mono (by simp));clear f;go_wp2_with fail;exact av (v:=.tuple #[ae none 0 0,.bool false]) (by simp[results,results67,go_sem]) rfl (BU HB d)
 ·have x:=ap (j rfl);clear j p;go_enter func67,ntmps67;go_wp2_with fail;refine(m _ (by go_grown)).mono ?_;rintro e w1 ⟨rfl,f⟩;have d:Hid (aj w w1):=aO.trans (f.mono (by simp));clear f;go_wp2_with fail;refine(x _ d).mono ?_;rintro e I ⟨l,h,n,q,rfl,y⟩;obtain⟨g,i⟩:∃g,l.length=g:=⟨_,rfl⟩;rw[i];have z:=ap i;clear i;go_wp2_with fail;refine av (v:=.tuple #[ae h g n,.bool q]) (by simp[results,results67,go_sem]) rfl ?_;obtain⟨B,C,D,E,F,G⟩:=y;exact⟨l,h,n,q,by rw[z.out],d.trans (B.mono d.size),C,D,E,(cG (dV _) 2 (pH (M+1)) h).1 _ _ _ (λb A=>az d.size A) F,G⟩
theorem zQ(M n:Nat)(A:n<=M+1)(x:Tm n)(B:Nat)(w:World)(j:In B w n x)(i:aD ⟨n,x⟩)(a:B<=w.heap.size):ak 67 #[dq n x] w (uq M (BS M n x) w):=by
 cases n with
 | zero=>exact j.elim
 | succ n=>
 obtain⟨f,c,h,z,y,o⟩:=rH n x B w j a;have s:∀l∈bN n x,aD ⟨n,l⟩:=λl t=>eA i t;have r:(bN n x).length<=8:=xJ i;have e:s9 (fe n x) nP=((fe n x).toList==[99,111,100,101]):=ny _ [99,111,100,101];refine wL M n _ _ _ _ _ _ (fe n x) f (bN n x).length c w (BS M (n+1) x) _ rfl (λd=>?_) o (λd u b=>?_)
 ·simp only[BS,e,d];rfl
 ·have p:BS M (n+1) x=cJ (zD M n) (bN n x):=by simp only[BS,e,d];rfl
  rw[p]
  exact qx M n (bN n x) (bN n x).length rfl r f c B u (h.below (b.mono a)) (az a b.size) (λm k v q=>by
   have g:=b.trans (q.mono b.size)
   exact BX M n (by omega) m B v ((Bn h k).below (g.mono a)) (s m k) (az a g.size))
theorem AY{s:ByteArray}(b:s.toList.isEmpty=true):s=.empty:=by
 apply uz;have a:ByteArray.empty.toList=[]:=by rw[cu];rfl
 rw[a];simpa using b
theorem xQ{n:Nat}{x:Tm (n+1)}(f:aD ⟨n+1,x⟩)(c:x.1.1=4):x.1=(4,0,.empty):=by
 have a:=f (bD n x) (by simp[ay,bD]);unfold cE at a;have b:(bD n x).1.1=4:=c;rw[if_neg (by rw[b];omega),if_neg (by rw[b];omega),if_neg (by rw[b];omega),if_pos b]at a;simp only[aG,cv]at a;have d:x.1.2.2=.empty:=AY a.1.1.1;have e:x.1.2.1=0:=a.1.1.2;exact fw c (fw e d)
theorem qy{n:Nat}{x:Tm (n+1)}(g:aD ⟨n+1,x⟩)(d:x.1.1=2):x.1=(2,0,x.1.2.2)/\x.2.2=[]/\dQ x.1.2.2=true:=by
 have b:=g (bD n x) (by simp[ay,bD]);unfold cE at b;have c:(bD n x).1.1=2:=d;rw[if_neg (by rw[c];omega),if_pos c]at b;simp only[aG,iv,cv]at b;obtain⟨⟨f,e⟩,a⟩:=b;refine⟨fw d (fw e rfl),?_,f⟩;rcases a with a|a
 ·rw[c]at a;omega
 ·have h:¬(0:Int)<(x.2.2.length:Int):=by simpa [bD]using a
  exact bE (by omega)
theorem xR{n:Nat}{x:Tm (n+1)}(g:aD ⟨n+1,x⟩)(d:x.1.1=5):x.1=(5,x.1.2.1,.empty)/\x.2.2=[]/\0<=x.1.2.1/\x.1.2.1<=3:=by
 have c:=g (bD n x) (by simp[ay,bD]);unfold cE at c;have a:(bD n x).1.1=5:=d;rw[if_neg (by rw[a];omega),if_neg (by rw[a];omega),if_neg (by rw[a];omega),if_neg (by rw[a];omega),if_pos a]at c;simp only[aG,iv,cv,qK,cd]at c;obtain⟨⟨f,e⟩,b⟩:=c;refine⟨fw d (fw rfl (AY f)),?_,e⟩;rcases b with b|b
 ·rw[a]at b;omega
 ·have h:¬(0:Int)<(x.2.2.length:Int):=by simpa [bD]using b
  exact bE (by omega)
theorem sg{n:Nat}{x:Tm (n+1)}(d:aD ⟨n+1,x⟩)(b:x.1.1=2)(N:Nat):ax (N+1) (bf x.1.2.2 N) (n+1) x=true:=by
 obtain⟨a,c,_⟩:=qy d b;refine dc a.symm ?_;rw[c];rfl
theorem Ld{n:Nat}{x:Tm (n+1)}(d:aD ⟨n+1,x⟩)(c:x.1.1=5)(N:Nat):ax (N+1) (bO 5 x.1.2.1 N) (n+1) x=true:=by
 obtain⟨a,b,_⟩:=xR d c;refine dc a.symm ?_;rw[b];rfl
theorem gK{n:Nat}{x:Tm (n+1)}(j:aD ⟨n+1,x⟩){f:ByteArray}(o:s9 (fe n x) f=true)(b:f.toList≠[]):x.1=(4,0,.empty)/\∃i,x.2.2=i::bN n x/\∀N,ax (N+1) (bf f N) n i=true:=by
 have g:ByteArray.empty.toList=[]:=by rw[cu];rfl
 have a:fe n x=f:=uz o;unfold fe at a;by_cases e:x.1.1=4
 ·rw[if_pos e]at a;refine⟨xQ j e,?_⟩;obtain⟨⟨k,r,q⟩,⟨p,c⟩,l⟩:=x;simp only at e a;subst e;cases l with
  | nil=>
   simp at a;rw[<-a,g]at b;exact(b rfl).elim
  | cons d l=>
   simp only[cQ]at a;cases n with
   | zero=>
    simp[bU]at a;rw[<-a,g]at b;exact(b rfl).elim
   | succ n=>
    by_cases h:d.1.1=2
    ·refine⟨d,by simp[bN,bU,h],λN=>?_⟩;have m:f=d.1.2.2:=by
      rw[if_pos (show bU ⟨n+1,d⟩=2 from h)]at a;exact a.symm
     rw[m];exact sg (aV (n+1) _ d j (by simp)) h N
    ·rw[if_neg (show¬bU ⟨n+1,d⟩=2 from h)]at a;rw[<-a,g]at b;exact(b rfl).elim
 ·rw[if_neg e]at a;rw[<-a,g]at b;exact(b rfl).elim
theorem nI(l:List UInt8)(a:l≠[]):(⟨l.toArray⟩:ByteArray).toList≠[]:=by rw[ko];exact a
theorem mD{M n:Nat}(a:n<=M+1){y:Tm n}(b:aD ⟨n,y⟩):ax (M+1) (aT (M+1) n y) n y=true:=mw (M+1) n a y (fC n y b)
theorem J6{b:Type}{l:List b}{a:b}(c:l.length=1)(d:l[0]?=some a):l=[a]:=by
 match l,c with
 | [x],_=>simpa using d
theorem J7{e:Type}{l:List e}{a b:e}(f:l.length=2)(c:l[0]?=some a)(d:l[1]?=some b):l=[a,b]:=by
 match l,f with
 | [x,y],_=>
  simp at c d;rw[c,d]
theorem DB{g:Type}{l:List g}{a b c:g}(h:l.length=3)(d:l[0]?=some a)(e:l[1]?=some b)(f:l[2]?=some c):l=[a,b,c]:=by
 match l,h with
 | [x,y,z],_=>
  simp at d e f;rw[d,e,f]
theorem GJ{i:Type}{l:List i}{a b c d:i}(j:l.length=4)(e:l[0]?=some a)(f:l[1]?=some b)(g:l[2]?=some c)(h:l[3]?=some d):l=[a,b,c,d]:=by
 match l,j with
 | [x,y,z,t],_=>
  simp at e f g h;rw[e,f,g,h]
theorem Kv(M:Nat):(n:Nat)->n<=M+1->(x:Tm n)->aD ⟨n,x⟩->(a:Ac (M+1))->sF M n x=some a->ax (M+2) (cg M a) n x=true/\nR (M+1) a=true
 | 0,_,_,hr,_,_=>(dj hr).elim
 | n+1,hn,x,hr,a,h=>by
  have e:∀y∈bN n x,aD ⟨n,y⟩:=λy E=>eA hr E;have w:eV (M+1) (zT M)=true:=by
   have t:ByteArray.empty.toList=[]:=by rw[cu];rfl
   simp[eV,gj,bD,zT,t]
  have u:wJ .empty 0=true:=by
   have t:ByteArray.empty.toList=[]:=by rw[cu];rfl
   simp[wJ,t]
  have get:∀(d:List (Tm n))(s:Nat),s<d.length->∃y,d[s]?=some y/\y∈d:=λd s z=>⟨d[s],aI z,jH z⟩;simp only[sF,jO]at h;split at h
  ·rename_i b;simp only[aG,cd]at b;obtain⟨k,j,l,m⟩:=gK hr b.1 (nI [115,101,110,100] (by simp));obtain⟨c,f,p⟩:=get _ 0 (by rw[b.2];omega);obtain⟨d,q,v⟩:=get _ 1 (by rw[b.2];omega);rw[f,q]at h;have i:a=(1,(aT (M+1) n c,aT (M+1) n d),(.empty,0)):=by simpa using h.symm
   have o:bN n x=[c,d]:=J7 b.2 f q;subst i;refine⟨dc k.symm ?_,u⟩;rw[l,o];show aB _ [bf mL M,aT (M+1) n c,aT (M+1) n d] [j,c,d]=true;simp only[aB,m M,mD (M:=M) (by omega) (e c p),mD (M:=M) (by omega) (e d v),iu]
  split at h
  ·rename_i b;simp only[aG,cd]at b;obtain⟨k,j,l,m⟩:=gK hr b.1 (nI [115,112,97,119,110] (by simp));obtain⟨c,f,p⟩:=get _ 0 (by rw[b.2];omega);obtain⟨d,q,v⟩:=get _ 1 (by rw[b.2];omega);obtain⟨g,B,A⟩:=get _ 2 (by rw[b.2];omega);rw[f,q,B]at h;simp only[dB,zG]at h;split at h
   ·rename_i r;have i:a=(2,(zT M,aT (M+1) n d),(xx n c,pI n g)):=by simpa using h.symm
    have o:bN n x=[c,d,g]:=DB b.2 f q B;subst i;cases n with
    | zero=>exact(dj (e c p)).elim
    | succ n=>
    have D:=xR (e g A) r.2;have C:=qy (e c p) r.1;refine⟨dc k.symm ?_,?_⟩
    ·rw[l,o];show aB _ [bf je M,bf c.1.2.2 M,aT (M+1) (n+1) d,bO 5 g.1.2.1 M] [j,c,d,g]=true;simp only[aB,m M,mD (M:=M) (by omega) (e d v),sg (e c p) r.1 M,Ld (e g A) r.2 M,iu]
    ·show (eV (M+1) (zT M) && dQ c.1.2.2 && decide (0<=g.1.2.1) && decide (g.1.2.1<4))=true;rw[w,C.2.2,gZ D.2.2.1,gZ (by omega)];rfl
   ·cases h
  split at h
  ·rename_i b;simp only[aG,cd]at b;obtain⟨k,j,l,m⟩:=gK hr b.1 (nI [108,105,110,107] (by simp));obtain⟨c,f,p⟩:=get _ 0 (by rw[b.2];omega);rw[f]at h;have i:a=(3,(aT (M+1) n c,zT M),(.empty,0)):=by simpa using h.symm
   have o:bN n x=[c]:=J6 b.2 f;subst i;refine⟨dc k.symm ?_,?_⟩
   ·rw[l,o];show aB _ [bf mK M,aT (M+1) n c] [j,c]=true;simp only[aB,m M,mD (M:=M) (by omega) (e c p),iu]
   ·show (eV (M+1) (zT M) && wJ .empty 0)=true;rw[w,u];rfl
  split at h
  ·rename_i b;simp only[aG,cd]at b;obtain⟨k,j,l,m⟩:=gK hr b.1 (nI [115,116,111,112] (by simp));have i:a=(4,(zT M,zT M),(.empty,0)):=by simpa using h.symm
   have o:bN n x=[]:=bE b.2;subst i;refine⟨dc k.symm ?_,?_⟩
   ·rw[l,o];show aB _ [bf lR M] [j]=true;simp only[aB,m M,iu]
   ·show (eV (M+1) (zT M) && eV (M+1) (zT M) && wJ .empty 0)=true;rw[w,u];rfl
  ·cases h
theorem pO{b:Type}{f g:b->Bool}:{l:List b}->(∀x∈l,f x=g x)->l.all f=l.all g
 | [],_=>rfl
 | a::l,h=>by
  simp only[ji,h a (by simp),pO (l:=l) λx c=>h x (by simp[c])]
theorem oG{d:Type}{n N:Nat}{f:Tm n->Option d}{g:d->Tm N}{B:d->Bool}(e:∀x a,aD ⟨n,x⟩->f x=some a->ax N (g a) n x=true/\B a=true):(p:List (Tm n))->(∀y∈p,aD ⟨n,y⟩)->(l:List d)->cJ f p=some l->aB (λa b=>ax N a n b) (l.map g) p=true/\l.all B=true/\l.length=p.length
 | [],_,l,c=>by
  simp[cJ]at c;subst c;exact⟨rfl,rfl,rfl⟩
 | y::p,hr,l,c=>by
  simp only[cJ]at c;obtain⟨a,k,c⟩:=bu.1 c;obtain⟨r,m,rfl⟩:=co.1 c;obtain⟨h,i,j⟩:=oG e p (λt o=>hr t (by simp[o])) r m;obtain⟨q,s⟩:=e y a (hr y (by simp)) k;refine⟨?_,by simp[s,i],by simp[j]⟩;simp only[aN,aB,q,h,iu]
theorem qq{N M n:Nat}(c:n<=M+1)(b:M+1<=N){y:Tm n}(d:aD ⟨n,y⟩):ax N (aT N (M+1) (aT (M+1) n y)) n y=true:=by
 have a:=mD c d;exact bH _ _ _ _ _ _ (mw N (M+1) b _ (xV a)) a
theorem Kx(M:Nat):(n:Nat)->n<=M+1->(x:Tm n)->aD ⟨n,x⟩->(c:Cl (M+1))->zF M n x=some c->ax (M+4) (dE M c) n x=true/\tE (M+1) c=true
 | 0,_,_,hr,_,_=>(dj hr).elim
 | n+1,hn,x,hr,c,h=>by
  have d:∀y∈bN n x,aD ⟨n,y⟩:=λy e=>eA hr e;have get:∀(q:List (Tm n))(i:Nat),i<q.length->∃y,q[i]?=some y/\y∈q:=λq i j=>⟨q[i],aI j,jH j⟩;simp only[zF,sG]at h;split at h
  ·rename_i b;simp only[aG,cd]at b;obtain⟨z,w,A,C⟩:=gK hr b.1 (nI [111,110] (by simp));obtain⟨p,k,m⟩:=get _ 0 (by rw[b.2];omega);obtain⟨q,o,I⟩:=get _ 1 (by rw[b.2];omega);obtain⟨r,u,f⟩:=get _ 2 (by rw[b.2];omega);obtain⟨t,v,J⟩:=get _ 3 (by rw[b.2];omega);rw[k,o,u,v]at h;simp only[dB]at h;split at h
   ·rename_i F;obtain⟨l,G,rfl⟩:=co.1 h;have H:bN n x=[p,q,r,t]:=GJ b.2 k o u v;cases n with
    | zero=>exact(dj (d p m)).elim
    | succ n=>
    have s:r.1.1=4:=F;obtain⟨K,L,P⟩:=oG (g:=cg M) (B:=nR (M+1)) (λy a e E=>Kv M n (by omega) y e a E) r.2.2 (λy e=>aV n r y (d r f) e) l G;have O:=mG (d r f) s;refine⟨dc z.symm ?_,?_⟩
    ·rw[A,H];show aB _ [bf Lw (M+2),aT (M+3) (M+1) (aT (M+1) (n+1) p),aT (M+3) (M+1) (aT (M+1) (n+1) q),df (M+2) (l.map (cg M)),aT (M+3) (M+1) (aT (M+1) (n+1) t)] [w,p,q,r,t]=true;have D:ax (M+3) (df (M+2) (l.map (cg M))) (n+1) r=true:=dc (xQ (d r f) s).symm K;simp only[aB,C (M+2),qq (N:=M+3) (M:=M) (by omega) (by omega) (d p m),qq (N:=M+3) (M:=M) (by omega) (by omega) (d q I),qq (N:=M+3) (M:=M) (by omega) (by omega) (d t J),D,iu]
    ·show (decide ((l.length:Int)<=8) && l.all (nR (M+1)))=true;rw[L,gZ (by omega)];rfl
   ·cases h
  ·cases h
theorem Kw(M:Nat):(n:Nat)->n<=M+1->(x:Tm n)->aD ⟨n,x⟩->(b:Bh (M+1))->zD M n x=some b->ax (M+5) (dM M b) n x=true/\(dQ b.1 && decide ((b.2.2.length:Int)<=6) && b.2.2.all (tE (M+1)))=true
 | 0,_,_,hr,_,_=>(dj hr).elim
 | n+1,hn,x,hr,b,a=>by
  have e:∀y∈bN n x,aD ⟨n,y⟩:=λy d=>eA hr d;simp only[zD,tJ]at a;split at a
  ·rename_i u;obtain⟨h,r,i,s⟩:=gK hr u (nI [98,101,104] (by simp));obtain⟨p,m,a⟩:=bu.1 a;split at a
   ·rename_i k;obtain⟨l,v,rfl⟩:=co.1 a;have z:x.1.1=4:=by rw[h]
    have j:=mG hr z;generalize bN n x=f at*;cases f with
    | nil=>simp at m
    | cons c f=>
    have q:c=p:=by simpa using m
    subst q;cases n with
    | zero=>exact(dj (e c (by simp))).elim
    | succ n=>
    have w:=qy (e c (by simp)) k;obtain⟨A,C,D⟩:=oG (g:=dE M) (B:=tE (M+1)) (λy o d t=>Kx M (n+1) (by omega) y d o t) f (λy d=>e y (by simp[d])) l v;rw[i]at j;simp only[bi]at j;refine⟨dc h.symm ?_,?_⟩
    ·rw[i];show aB _ (bf tT (M+3)::bf c.1.2.2 (M+3)::l.map (dE M)) (r::c::f)=true;simp only[aB,s (M+3),sg (e c (by simp)) k (M+3),A,iu]
    ·show (dQ c.1.2.2 && decide ((l.length:Int)<=6) && l.all (tE (M+1)))=true;rw[w.2.2,C,gZ (by omega)];rfl
   ·cases a
  ·cases a
theorem BT(M:Nat):(n:Nat)->n<=M+1->(x:Tm n)->aD ⟨n,x⟩->(l:List (Bh (M+1)))->BS M n x=some l->ax (M+6) (bW M l) n x=true/\kA (M+1) l=(decide (1<=(l.length:Int)) && l.all λb=>decide (1<=(b.2.2.length:Int)))
 | 0,_,_,hr,_,_=>(dj hr).elim
 | n+1,hn,x,hr,l,h=>by
  have r:∀y∈bN n x,aD ⟨n,y⟩:=λy c=>eA hr c;simp only[BS]at h;split at h
  ·rename_i a;obtain⟨d,o,e,p⟩:=gK hr a (nI [99,111,100,101] (by simp));have s:x.1.1=4:=by rw[d]
   have f:=mG hr s;obtain⟨t,i,u⟩:=oG (g:=dM M) (B:=λb=>dQ b.1 && decide ((b.2.2.length:Int)<=6) && b.2.2.all (tE (M+1))) (λy j c q=>Kw M n (by omega) y c j q) (bN n x) r l h;rw[e]at f;simp only[bi]at f;refine⟨dc d.symm ?_,?_⟩
   ·rw[e];show aB _ (bf nP (M+4)::l.map (dM M)) (o::bN n x)=true;simp only[aB,p (M+4),t,iu]
   ·have k:decide ((l.length:Int)<=7)=true:=gZ (by omega);have m:l.all (wC (M+1))=l.all λb=>decide (1<=(b.2.2.length:Int)):=by
     rw[ci]at i;refine pO λb a=>?_;have:=i b a;simp only[aG]at this;simp only[wC,this.1.1,this.1.2,this.2,eE,Bool.and_true]
    simp only[kA,k,m,Bool.and_true]
  ·cases h
theorem dK{e β:Type}{f:e->β->Bool}{p:List e}{b:β}{q:List β}(c:aB f p (b::q)=true):∃a d,p=a::d/\f a b=true/\aB f d q=true:=by
 cases p with
 | nil=>simp[aB]at c
 | cons a p=>
  simp only[aB,aG]at c;exact⟨a,p,rfl,c.1,c.2⟩
theorem mH{a β:Type}{f:a->β->Bool}{p:List a}(b:aB f p ([]:List β)=true):p=[]:=by
 cases p with
 | nil=>rfl
 | cons c p=>simp[aB]at b
theorem KE{n m:Nat}{x:Tm n}{y:Tm (m+1)}(a:ax n x (m+1) y=true):(gj n x).1=y.1:=(Fx a).1
theorem nJ{N n:Nat}{x:Tm (N+1)}{c:ByteArray}{ys:List (Tm (n+1))}(k:ax (N+1) x (n+2) (df (n+1) (bf c n::ys))=true):fe N x=c/\aB (λa b=>ax N a (n+1) b) (bN N x) ys=true:=by
 obtain⟨l,m⟩:=bG k;obtain⟨a,q,g,h,o⟩:=dK m;have d:x.1.1=4:=by rw[l];rfl
 have e:=KE h;have i:bU ⟨N,a⟩=2:=by
  cases N with
  | zero=>simp[ax]at h
  | succ N=>
   have:a.1.1=2:=by
    have j:a.1=(2,0,c):=e;rw[j]
   exact this
 have f:x.2.2[0]?=some a:=by rw[g];rfl
 have p:x.2.2.drop 1=q:=by rw[g];rfl
 constructor
 ·simp only[fe,d,cT,f,i];rw[e];rfl
 ·simp only[bN,d,cT,f,i,p];exact o
theorem lh(a:ByteArray):s9 a a=true:=by simp[s9]
theorem tV{m β:Type}{n:Nat}{f:Tm n->Option m}{R:Tm n->β->Prop}{Q:m->β->Prop}(g:∀y b,R y b->∃a,f y=some a/\Q a b):(q:List (Tm n))->(l:List β)->eT R q l->∃c,cJ f q=some c/\eT Q c l
 | [],[],_=>⟨[],rfl,eT.nil⟩
 | [],_::_,h=>by have:=h.1;simp at this
 | _::_,[],h=>by have:=h.1;simp at this
 | y::q,b::l,h=>by
  obtain⟨a,o,k⟩:=g y b h.tail.1;obtain⟨c,p,j⟩:=tV g q l h.tail.2;refine⟨a::c,by simp[cJ,o,p],by simp[j.1],λi u v d e=>?_⟩;cases i with
  | zero=>
   simp at d e;subst d e;exact k
  | succ i=>exact j.2 i u v (by simpa using d) (by simpa using e)
theorem lN{β:Type}{n m:Nat}(g:β->Tm m):(q:List (Tm n))->(l:List β)->aB (λa b=>ax n a m b) q (l.map g)=true->eT (λy b=>ax n y m (g b)=true) q l
 | [],[],_=>eT.nil
 | [],_::_,h=>by simp[aB]at h
 | _::_,[],h=>by simp[aB]at h
 | y::q,b::l,h=>by
  simp only[aN,aB,aG]at h;have ih:=lN g q l h.2;refine⟨by simp[ih.1],λi u v c d=>?_⟩;cases i with
  | zero=>
   simp at c d;subst c d;exact h.1
  | succ i=>exact ih.2 i u v (by simpa using c) (by simpa using d)
theorem kw{a s:ByteArray}(b:a.toList≠s.toList):s9 a s=false:=by simpa [s9]using b
theorem Ot(M N n:Nat)(a:Ac (n+1))(y:Tm N)(b:ax N y (n+2) (cg n a)=true):∃E,sF M N y=some E:=by
 cases N with
 | zero=>simp[ax]at b
 | succ N=>
 have i:mL.toList=[115,101,110,100]:=ko [115,101,110,100];have j:je.toList=[115,112,97,119,110]:=ko [115,112,97,119,110];have k:mK.toList=[108,105,110,107]:=ko [108,105,110,107];have l:lR.toList=[115,116,111,112]:=ko [115,116,111,112];unfold cg at b;split at b
 ·obtain⟨c,d⟩:=nJ b;obtain⟨s,t,f,r,h⟩:=dK d;obtain⟨B,C,o,z,q⟩:=dK h;have p:=mH q;subst o p;simp only[sF,jO,c,f,lh];exact⟨_,rfl⟩
 split at b
 ·obtain⟨c,d⟩:=nJ b;obtain⟨s,t,f,r,h⟩:=dK d;obtain⟨B,C,o,z,q⟩:=dK h;obtain⟨D,F,p,A,v⟩:=dK q;have g:=mH v;subst o p g;have w:bU ⟨N,s⟩=2:=by rw[kC r];rfl
  have x:bU ⟨N,D⟩=5:=by rw[kC A];rfl
  have e:s9 je mL=false:=kw (by rw[i,j];decide);simp only[sF,jO,c,f,lh,e,Bool.false_and,eE];simp[zG,w,x]
 split at b
 ·obtain⟨c,d⟩:=nJ b;obtain⟨s,t,f,r,h⟩:=dK d;have g:=mH h;subst g;have e:s9 mK mL=false:=kw (by rw[i,k];decide);have m:s9 mK je=false:=kw (by rw[j,k];decide);simp only[sF,jO,c,f,lh,e,m,Bool.false_and,eE];simp
 ·obtain⟨c,d⟩:=nJ b;have g:=mH d;have e:s9 lR mL=false:=kw (by rw[i,l];decide);have m:s9 lR je=false:=kw (by rw[j,l];decide);have u:s9 lR mK=false:=kw (by rw[k,l];decide);simp only[sF,jO,c,g,lh,e,m,u,Bool.false_and,eE];simp
theorem Ov(M N n:Nat)(c:Cl (n+1))(y:Tm N)(g:ax N y (n+4) (dE n c)=true):∃e,zF M N y=some e:=by
 cases N with
 | zero=>simp[ax]at g
 | succ N=>
 obtain⟨o,p⟩:=nJ g;obtain⟨B,G,i,D,q⟩:=dK p;obtain⟨C,H,j,E,r⟩:=dK q;obtain⟨a,I,k,d,s⟩:=dK r;obtain⟨t,J,l,F,u⟩:=dK s;have m:=mH u;subst j k l m;have v:bU ⟨N,a⟩=4:=by rw[kC d];rfl
 cases N with
 | zero=>simp[ax]at d
 | succ N=>
 obtain⟨h,z,_⟩:=tV (f:=sF M N) (R:=λy b=>ax N y (n+2) (cg n b)=true) (Q:=λ_ _=>True) (λy b w=>by
  obtain⟨e,x⟩:=Ot M N n b y w
  exact⟨e,x,trivial⟩) a.2.2 c.2.2 (lN (cg n) _ _ (bG d).2)
 have A:cJ (sF M (N+1-1)) (EM (N+1) a)=some h:=z;refine⟨((aT (M+1) (N+1) B,aT (M+1) (N+1) C,aT (M+1) (N+1) t),(none,0),h),?_⟩;show sG M (N+1) (fe (N+1) y) (bN (N+1) y)=_;rw[o,i];unfold sG;rw[if_pos (by rw[lh];rfl)];show (if bU ⟨N+1,a⟩=4 then (cJ (sF M (N+1-1)) (EM (N+1) a)).map _ else none)=_;rw[if_pos v,A];rfl
theorem Ou(M N n:Nat)(b:Bh (n+1))(y:Tm N)(c:ax N y (n+5) (dM n b)=true):∃a,zD M N y=some a/\a.2.2.length=b.2.2.length:=by
 cases N with
 | zero=>simp[ax]at c
 | succ N=>
 obtain⟨g,h⟩:=nJ c;obtain⟨d,q,e,p,i⟩:=dK h;have j:bU ⟨N,d⟩=2:=by rw[kC p];rfl
 obtain⟨r,o,k⟩:=tV (f:=zF M N) (R:=λy b=>ax N y (n+4) (dE n b)=true) (Q:=λ_ _=>True) (λy b l=>by
  obtain⟨a,m⟩:=Ov M N n b y l
  exact⟨a,m,trivial⟩) q b.2.2 (lN (dE n) _ _ i)
 refine⟨(xx N d,(none,0),r),?_,k.1⟩;simp only[zD,tJ,g,e,lh];simp[j,o]
theorem Ky(M N n:Nat)(q:N<=M+1)(l:List (Bh (n+1)))(e:kA (n+1) l=true)(x:Tm N)(r:aD ⟨N,x⟩)(i:ax N x (n+6) (bW n l)=true):∃a,BS M N x=some a/\kA (M+1) a=true/\a.length=l.length:=by
 cases N with
 | zero=>simp[ax]at i
 | succ N=>
 obtain⟨o,p⟩:=nJ i;obtain⟨h,u,c⟩:=tV (f:=zD M N) (R:=λg b=>ax N g (n+5) (dM n b)=true) (Q:=λa b=>a.2.2.length=b.2.2.length) (λg b s=>Ou M N n b g s) (bN N x) l (lN (dM n) _ _ p);have m:BS M (N+1) x=some h:=by
  simp only[BS,o,lh];simpa using u
 refine⟨h,m,?_,c.1⟩;rw[(BT M (N+1) q x r h m).2];simp only[kA,wC,aG,cd,ci]at e ⊢;refine⟨by rw[c.1];exact e.1.1,λa t=>?_⟩;obtain⟨d,j⟩:=cW t;have k:d<l.length:=by have:=(aS.1 j).1;rw[<-c.1];exact this
 have:=c.2 d a l[d] j (aI k);rw[this];exact(e.2 l[d] (jH k)).1.1.2
def A7(M:Nat)(o:Option (List (Bh (M+1)))):Int:=match o with|some l=>if kA (M+1) l=true then 0 else 5|none=>5
def A6(M n:Nat)(x:Tm n):Int:=if bz n x=0 then A7 M (BS M n x)else bz n x
def tU(M:Nat)(E:Int)(o:Option (List (Bh (M+1))))(w:World)(e:Ending)(w':World):Prop:=
 ∃(l:List (Bh (M+1)))(a:Option Addr)(c:Nat),e=.returned (.tuple #[ae a l.length c,ab E])/\Hid (aj w w'/\(l.length<=c/\c<=maxLen)/\gh (M+1) w'.heap.size w' a l/\tD (jS (M+1) (λb=>w.heap.size<=b)) (λb=>w.heap.size<=b) a l/\(¬E=0->l=[])/\(E=0->∃d,o=some d/\eT (yH (M+1)) l d))
theorem sw{M:Nat}{E:Int}{o:Option (List (Bh (M+1)))}{w w':World}(a:¬E=0)(c:aj w w'):tU M E o w (.returned (.tuple #[ae none 0 0,ab E])) w':=
 ⟨[],none,0,rfl,c,⟨am _,aH _⟩,ah rfl,ah rfl,λ_=>rfl,λb=>(a b).elim⟩
theorem Gu(M:Nat)(k u:Int)(s:ByteArray)(a:Option Addr)(l c:Nat)(w:World)(g:Int)(o:Option (List (Bh (M+1))))(E:Int)(J:Hid (E=if g=0 then A7 M o else g))(Q:Hid (∀w1,aj w w1->ak 53 #[.agg #[ab k,ab u,af s,ae a l c]] w1 λe w'=>e=.returned (ab g)/\aj w1 w'))(H:Hid (g=0->∀w1,aj w w1->ak 67 #[.agg #[ab k,ab u,af s,ae a l c]] w1 (uq M o w1))):ak 38 #[.agg #[ab k,ab u,af s,ae a l c]] w (tU M E o w):=by
 go_enter func38,ntmps38;go_wp2_with fail;refine(Q _ aO).mono ?_;rintro e w1 ⟨rfl,L⟩;have q:Hid (aj w w1):=aO.trans (L.mono (by simp));have j:=ap (qX w _ _ _ _ _ L);clear L Q;by_cases A:g=0
 ·subst A;have S:=ap (H (by simp) w1 q);have X:w1.cell? ⟨w.heap.size,0,none⟩=some (ab k):=au j 0;have Y:w1.cell? ⟨w.heap.size,1,none⟩=some (ab u):=au j 1;have Z:w1.cell? ⟨w.heap.size,2,none⟩=some (af s):=au j 2;have aa:w1.cell? ⟨w.heap.size,3,none⟩=some (ae a l c):=au j 3;have am:w.heap.size<w1.heap.size:=(aF.1 j).1;have D:=ap (show E=A7 M o by simpa using J.out);clear H J;go_wp2_with fail;refine S.mono ?_;rintro e B ⟨p,x,z,ai,rfl,i⟩;obtain⟨t,K⟩:∃t,p.length=t:=⟨_,rfl⟩;rw[K];have G:=ap K;have r:Hid (aj w B):=q.trans (i.1.mono q.size);clear K S X Y Z aa j;cases ai
  ·have h:Hid (E=5):=by
     show E=5;rw[D.out];have d:=i.2.1;cases o with
     | none=>rfl
     | some f=>cases d
   have W:Hid (tU M E o w (.returned (.tuple #[ae none 0 0,ab 5])) B):=by
    have d:=sw (M:=M) (E:=E) (o:=o) (by rw[h.out];omega) r;rw[h.out]at d;rw[h.out];exact d
   go_wp2_with fail;exact av (v:=.tuple #[ae none 0 0,ab 5]) (by simp[results,results38,go_sem]) rfl W
  ·have F:Hid (∀m,aj B m->ak 65 #[ae x t z] m λe w'=>e=.returned (.bool (kA (M+1) p))/\aj m w'):=λm T=>
     pQ M p t G x z B.heap.size m (gh.below T i.2.2.2.1) (by have:=i.2.2.1;have:=G.out;unfold maxLen at*;omega) T.size
   obtain⟨b,y⟩:∃b,kA (M+1) p=b:=⟨_,rfl⟩;rw[y]at F;have R:=ap y;clear y;have I:Hid (∃f,o=some f/\eT (yH (M+1)) p f):=by
    have d:=i.2.1;cases o with
    | none=>cases d
    | some f=>exact⟨f,rfl,i.2.2.2.2.2 f rfl⟩
   cases b
   ·have h:Hid (E=5):=by
      show E=5;obtain⟨f,O,N⟩:=I.out;rw[D.out,O];show (if kA (M+1) f=true then (0:Int)else 5)=5;rw[<-Kq N,R.out];rfl
    go_wp2_with (go_at_call 65;refine(F _ (ao _ _)).mono ?_;rintro e m ⟨rfl,n⟩;have C:=ap (r.trans (n.mono r.size));clear n);refine av (v:=.tuple #[ae none 0 0,ab 5]) (by simp[results,results38,go_sem]) rfl ?_;have d:=sw (M:=M) (E:=E) (o:=o) (by rw[h.out];omega) C;rw[h.out]at d;rw[h.out];exact d
   ·have U:Hid (E=0):=by
      show E=0;obtain⟨f,O,N⟩:=I.out;rw[D.out,O];show (if kA (M+1) f=true then (0:Int)else 5)=0;rw[<-Kq N,R.out];rfl
    go_wp2_with (go_at_call 65;refine(F _ (ao _ _)).mono ?_;rintro e m ⟨rfl,n⟩;have P:=ap n;have C:=ap (r.trans (n.mono r.size));clear n);refine av (v:=.tuple #[ae x t z,ab 0]) (by simp[results,results38,go_sem]) rfl ?_;obtain⟨an,aq,ad,ag,ah,ar⟩:=i;rw[U.out];exact⟨p,x,z,by rw[G.out],C,ad,(gh.below P ag).mono P.size,(cG (dV _) 2 (pH (M+1)) x).1 _ _ _ (λb y=>az q.size y) ah,λd=>(d rfl).elim,λ_=>I⟩
 ·have al:(g !=0)=true:=by simpa using A
  have V:Hid (E=g):=by
   show E=g;rw[J.out,if_neg A]
  clear H j;go_wp2_with fail;refine av (v:=.tuple #[ae none 0 0,ab g]) (by simp[results,results38,go_sem]) rfl ?_;rw[V.out];exact sw A q
theorem A8(M n:Nat)(g:n<=M+1)(x:Tm n)(B:Nat)(w:World)(c:In B w n x)(f:(ay n x).length<=2097152)(b:B<=w.heap.size):ak 38 #[dq n x] w (tU M (A6 M n x) (BS M n x) w):=by
 cases n with
 | zero=>exact c.elim
 | succ n=>
 exact Gu M x.1.1 x.1.2.1 x.1.2.2 x.2.1.1 x.2.2.length x.2.1.2 w (bz (n+1) x) _ _ rfl (λd a=>dL (n+1) x B d (c.below (a.mono b)) (az b a.size) f) (λe d a=>zQ M (n+1) g x B d (c.below (a.mono b)) (aM.2 (bB.1 e).1) (az b a.size))
theorem qh{n:Nat}{x:Tm n}(a:bz n x=0):aD ⟨n,x⟩:=aM.2 (bB.1 a).1
theorem fq{n:Nat}{p:List (Bh (n+1))}(b:lP n p=0):kA (n+1) p=true/\bz (n+6) (bW n p)=0/\KY n p=bW n p:=by
 have a:=b;unfold lP at a;split at a
 ·rename_i c;exact⟨c,a,by unfold KY;rw[if_pos b]⟩
 ·omega
theorem OB{n:Nat}{p:List (Bh (n+1))}(a:kA (n+1) p=true)(k:bz (n+6) (bW n p)=0):lP n p=0:=by
 unfold lP;rw[if_pos a];exact k
theorem xP{M n:Nat}(i:n<=M+1){x:Tm n}(e:bz n x=0){a l:List (Bh (M+1))}(j:BS M n x=some a)(f:eT (yH (M+1)) l a)(h:kA (M+1) a=true):kA (M+1) l=true/\lP M l=0/\ax (M+6) (KY M l) n x=true/\(ay (M+6) (bW M l)).length=(ay n x).length:=by
 have g:=BT M n i x (qh e) a j;have c:kA (M+1) l=true:=(Kq f).trans h;have b:ax (M+6) (bW M l) n x=true:=bH _ _ _ _ _ _ (Kr f) g.1;have d:lP M l=0:=OB c ((bQ b).trans e);exact⟨c,d,by rw[(fq d).2.2];exact b,kD _ _ _ _ b⟩
theorem Ii{n:Nat}{p:List (Bh (n+1))}(i:lP n p=0){y:Tm (n+6)}(a:ax (n+6) y (n+6) (KY n p)=true):bz (n+6) y=0/\A6 (n+5) (n+6) y=0/\∀e l,BS (n+5) (n+6) y=some e->eT (yH (n+6)) l e->kA (n+6) l=true/\lP (n+5) l=0/\ax (n+11) (KY (n+5) l) (n+6) (KY n p)=true/\l.length=p.length/\(ay (n+11) (bW (n+5) l)).length=(ay (n+6) (bW n p)).length:=by
 obtain⟨j,k,f⟩:=fq i;rw[f]at a;have b:bz (n+6) y=0:=(bQ a).trans k;obtain⟨e,d,h,m⟩:=Ky (n+5) (n+6) n (am _) p j y (qh b) a;refine⟨b,?_,λt l c g=>?_⟩
 ·unfold A6;rw[if_pos b,d];unfold A7;simp only[h,cT]
 ·rw[d]at c;injection c with c;subst c;obtain⟨o,q,r,s⟩:=xP (am _) b d g h;exact⟨o,q,by rw[f];exact bH _ _ _ _ _ _ r a,g.1.trans m,by rw[s];exact kD _ _ _ _ a⟩
def l7(lo:Nat)(room:Int)(K:Nat)(e:Nat->Prop)(B:Nat)(w:World):List (Int×ByteArray×Tc)->List Nat->Nat->Prop
 | [],[],c=>c<=B
 | x::l,b::bs,c=>∃a d,(c<=a/\a<=d)/\P1 lo b x.2.1 room x.2.2 [] K (λq=>a<=q/\q<d) w/\(∀q,a<=q->q<d->¬e q)/\l7 lo room K e B w l bs d
 | _,_,_=>False
section
variable {lo K:Nat} {room:Int} {X:Nat->Prop} {B:Nat} {w:World}
theorem l7.le:{l:List (Int×ByteArray×Tc)}->{a:List Nat}->{c:Nat}->l7 lo room K X B w l a c->c<=B
 | [],[],_,h=>h
 | [],_::_,_,h=>h.elim
 | _::_,[],_,h=>h.elim
 | _::_,_::_,_,⟨c1,c2,h1,_,_,h4⟩=>by have:=h4.le;omega
theorem l7.kept2{w':World}{S f:Nat->Prop}{e c0:Nat}(a:bt S w w')(j:∀q,c0<=q->q<B->S q->X q)(k:∀q,q<B->f q->X q)(i:B<=e):{l:List (Int×ByteArray×Tc)}->{g:List Nat}->{c:Nat}->c0<=c->l7 lo room K X B w l g c->l7 lo room K f e w' l g c
 | [],[],_,_,h=>az h i
 | [],_::_,_,_,h=>h.elim
 | _::_,[],_,_,h=>h.elim
 | _::_,_::_,_,hc,⟨c1,c2,h1,h2,h3,h4⟩=>by
  have o:=h4.le;exact⟨c1,c2,h1,h2.kept (S:=S) ⟨a.os,a.tape,a.output,a.size,a.block⟩ λb q d=>h3 b q.1 q.2 (j b (by omega) (by omega) d),λq m n d=>h3 q m n (k q (by omega) d),h4.kept2 a j k i (by omega)⟩
theorem l7.kept{w':World}{S b:Nat->Prop}{a:Nat}(i:bt S w w')(g:∀q,q<B->S q->X q)(h:∀q,q<B->b q->X q)(f:B<=a){l:List (Int×ByteArray×Tc)}{d:List Nat}{c:Nat}(e:l7 lo room K X B w l d c):l7 lo room K b a w' l d c:=e.kept2 (c0:=0) i (λq _=>g q) h f (aH _)
theorem l7.snoc{a B2 e b:Nat}{x:Int×ByteArray×Tc}(g:B<=a)(d:a<=B2/\B2<=e)(i:P1 lo b x.2.1 room x.2.2 [] K (λq=>a<=q/\q<B2) w)(j:∀q,a<=q->q<B2->¬X q):{l:List (Int×ByteArray×Tc)}->{f:List Nat}->{c:Nat}->l7 lo room K X B w l f c->l7 lo room K X e w (l++ [x]) (f++ [b]) c
 | [],[],_,h=>⟨a,B2,⟨az h g,d.1⟩,i,j,d.2⟩
 | [],_::_,_,h=>h.elim
 | _::_,[],_,h=>h.elim
 | _::_,_::_,_,⟨c1,c2,h1,h2,h3,h4⟩=>⟨c1,c2,h1,h2,h3,h4.snoc g d i j⟩
end
section
variable {p:jY} {s:Sy} {d:fT} {w:World}
theorem Mx{n:Nat}{x:Tm n}(room:Int)(nm:ByteArray)(b:bz n x=0):fY 13 (cn n x) room nm=fY n x room nm:=by
 have a:=ei b;unfold fY jN;rw[bQ a,cF _ _ _ _ a,lO _ _ _ _ a]
theorem bj.made(z:bj p s d w){N ad:Nat}{pa:Option Addr}{pl pc:Nat}{t:List (Int×ByteArray×Tm (N+1))}(aB:w.ownsRow ad 174 6 (ae pa pl pc) pl (t.flatMap λg=>Ox g.1 g.2.1 g.2.2))(ax:t.length=pl)(Y:pl<=1000)(aD:∀g∈t,bz _ g.2.2=0/\In w.heap.size w _ g.2.2):ak 47 #[aC p.b,ae pa pl pc] w λe w'=>∃v b,e=.returned (.tuple #[v,.bool b])/\Hid (aj w w'/\b=s.made p.n p.prog p.room (t.map λg=>(g.1,g.2.1,cn _ g.2.2))/\(b=true->∃m a c,v=ae a pl c/\m.length=pl/\w'.ownsRow w.heap.size 65 1 v pl (m.map Al)/\l7 p.lo p.room (d.k+201) (λq=>v.ownBlock=some q) w'.heap.size w' (t.map λg=>(g.1,g.2.1,cn _ g.2.2)) m w.heap.size)):=by
 have az:kA (p.n+1) p.prog=true:=(fq z.pg.2.2.2.1).1;obtain⟨aQ,O,af,_,aq⟩:=rI aB (by decide) λg=>rfl;injection af with ah el aT;subst ah;have F:∀f,f<pl->t[f]?=some (t.getD f (0,⟨#[]⟩,((0,0,⟨#[]⟩),(none,0),[]))):=λf i=>by
  rw[mR,aI (by omega)];rfl
 generalize T:(λf=>t.getD f (0,⟨#[]⟩,((0,0,⟨#[]⟩),(none,0),[])))=h;have F:∀f,f<pl->t[f]?=some (h f):=λf i=>by rw[F f i,<-T]
 clear T;obtain⟨o,J⟩:∃o,o=t.map λg=>(g.1,g.2.1,cn _ g.2.2):=⟨_,rfl⟩;rw[<-J];have U:o.length=pl:=by rw[J,ee,ax]
 have K:∀f,f<pl->o[f]?=some ((h f).1,(h f).2.1,cn _ (h f).2.2):=λf i=>by rw[J,dt,F f i];rfl
 have W:∀f,f<pl->bz _ (h f).2.2=0/\In w.heap.size w _ (h f).2.2:=λf i=>aD _ (aJ (F f i));have X:∀f,f<pl->fY 13 (cn _ (h f).2.2) p.room (h f).2.1=fY _ (h f).2.2 p.room (h f).2.1:=λf i=>Mx _ _ (W f i).1;have aE:∀f,f<pl->o.take (f+1)=o.take f++ [((h f).1,(h f).2.1,cn _ (h f).2.2)]:=λf i=>by
  rw[du,K f i];rfl
 refine GN p.b pa pl pc (s.may pl) p.room w (λf=>(h f).1) (λf=>(h f).2.2.1.1) (λf=>(h f).2.2.1.2.1) (λf=>(h f).2.1) (λf=>(h f).2.2.1.2.2) (λf=>(h f).2.2.2.1.1) (λf=>(h f).2.2.2.2.length) (λf=>(h f).2.2.2.1.2) (λf=>lj p.n p.prog (h f).2.1) (λf=>fY _ (h f).2.2 p.room (h f).2.1) (λf m v j=>l7 p.lo p.room (d.k+201) (λq=>v.ownBlock=some q) j.heap.size j (o.take f) m w.heap.size/\∀q,v.ownBlock=some q->q<j.heap.size)
  (λf G m v j=>∃x,(w.heap.size<=x/\x<=j.heap.size)/\(l7 p.lo p.room (d.k+201) (λq=>v.ownBlock=some q) x j (o.take f) m w.heap.size)/\(∀q,v.ownBlock=some q->q<x)/\P1 p.lo G (h f).2.1 p.room (cn _ (h f).2.2) [] (d.k+201) (λq=>x<=q/\q<j.heap.size) j) (λv b w'=>aj w w'/\b=s.made p.n p.prog p.room o/\(b=true->∃m a c,v=ae a pl c/\m.length=pl/\w'.ownsRow w.heap.size 65 1 v pl (m.map Al)/\l7 p.lo p.room (d.k+201) (λq=>v.ownBlock=some q) w'.heap.size w' o m w.heap.size)) Y z.lo.2 z.cells.2.1 (λf i=>?_) (z.mayHave pl Y) (λf j i l=>(z.later l).knows _) (λf m v j i r l E=>?_) ?_ (λf m v j H E l=>?_) (λf G m a c D O j ab H B ap l A ar au=>?_) (λj l u=>?_) λj m a c l al Q an ao R=>?_
 ·obtain⟨D,I,P,y⟩:=aq f _ (F f i);exact⟨D,I,P,y 0 _ rfl,y 1 _ rfl,y 2 _ rfl,y 3 _ rfl,y 4 _ rfl,y 5 _ rfl⟩
 ·have aW:=Dw az r;obtain⟨aH,aL⟩:=W f i;refine(P1.new _ (h f).2.2 p.room (h f).2.1 j (by omega) ((aL.below l).mono l.size) (fi aH)).mono ?_;rintro e w' ⟨q,rfl,aa⟩;obtain⟨L,aX,aM⟩:=aa;refine⟨q,rfl,L,λe=>?_⟩;obtain⟨G,I,P,y,ag⟩:=aM e;have:=z.lo.1;have:=l.size;refine⟨G,I,j.heap.size,⟨l.size,L.size⟩,E.1.kept (aK L λ_=>False) (λ_ _ g=>g.elim) (λ_ _ g=>g) (am _),E.2,ag.mono (λb g=>g) (by omega) λb g=>⟨by omega,g.2⟩⟩
 ·exact⟨am _,(λq g=>by cases g)⟩
 ·exact⟨E.1.kept (aK l λ_=>False) (λ_ _ g=>g.elim) (λ_ _ g=>g) l.size,λq g=>aR (E.2 q g) l.size⟩
 ·obtain⟨x,⟨aY,aZ⟩,aN,Z,aO⟩:=ap;have av:bt (λq=>(Value.slice a f c).ownBlock=some q) ab H:=⟨A.os,A.tape,A.output,A.size,λk r ay=>A.block k r λe=>ay e.symm⟩;have r:bt (λq=>(Value.slice a f c).ownBlock=some q) j H:=(aK l _).trans av λ_ _ e=>e;have aU:=l.size;have aV:=A.size;have V:∀q,q<j.heap.size->(Value.slice (some ⟨D,0,none⟩) (f+1) O).ownBlock=some q->(Value.slice a f c).ownBlock=some q:=λq aA g=>by
   obtain rfl:D=q:=aw g;rcases ar with e|e
   ·exact e
   ·omega
  refine⟨?_,λq g=>?_⟩
  ·rw[aE f B];refine l7.snoc (am x) (B2:=j.heap.size) (by omega) ?_ ?_ (aN.kept r (λq _ g=>g) (λq aA g=>V q (by omega) g) (am _))
   ·exact aO.kept (S:=λq=>(Value.slice a f c).ownBlock=some q) ⟨r.os,r.tape,r.output,r.size,r.block⟩ λb g C=>by have:=Z b C;omega
   ·exact λq M C aP=>by have:=Z q (V q C aP);omega
  ·obtain rfl:D=q:=aw g;exact au
 ·refine⟨l,?_,(λg=>by cases g)⟩;unfold Sy.made;rw[U];rcases u with u|⟨f,i,u⟩
  ·rw[u];rfl
  ·refine Eq.symm (Bool.and_eq_false_iff.2 (ai ?_));rw[List.all_eq_false];refine⟨_,aJ (K f i),?_⟩;simp only[aG,cv,not_and];intro M C;rw[X f i]at C;rcases u with u|u
   ·rw[u]at M;cases M
   ·exact u C
 ·refine⟨l,?_,λ_=>⟨m,a,c,rfl,an,ao,?_⟩⟩
  ·unfold Sy.made;rw[U,al,eE,eq_comm,ci];intro a0 aF;obtain⟨f,i⟩:=List.mem_iff_getElem?.1 aF;have B:f<pl:=by have:=(aS.1 i).1;omega
   rw[K f B]at i;obtain rfl:=aw i;simp only[aG,cv];exact⟨(Q f B).1,(X f B).trans (Q f B).2⟩
  ·rw[bA (by omega)]at R;exact R.1
end
theorem zR(x:Nat)(a O P:Int)(Q:ByteArray)(ma:Option Addr)(T S:Nat)(f:Int)(sa:Option Addr)(sl sc:Nat)(pa:Option Addr)(pl pc:Nat)(ka:Option Addr)(kl kc:Nat)(ar:Option Addr)(vl aD:Nat)(aa:Nat->Nat)(C D E:Nat->Int)(F:Nat->ByteArray)(xa:Nat->Option Addr)(G xc:Nat->Nat)(aq:Nat->Int)(w:World)(k o p:Nat->Nat->World->Prop)(R:World->Prop)(aI:vl<=1000)(aG:sl<=1000)(aF:kl<=1000)(X:Hid (∀q W,aj w W->w.heap.size<=q->W.heap[q]?=some (.cells #[ab O,ab P,af Q,ae ma T S,ab f,ae sa sl sc,ae pa pl pc,ae ka kl kc] 117)->k q 0 W))(H:Hid (∀q W,k q vl W->o q 0 W))(y:Hid (∀q W,o q sl W->p q 0 W))(i:Hid (∀q j W,(k q j W\/o q j W\/p q j W)->W.heap[q]?=some (.cells #[ab O,ab P,af Q,ae ma T S,ab f,ae sa sl sc,ae pa pl pc,ae ka kl kc] 117)))(I:Hid (∀q j W,j<vl->k q j W->(∃g,ar=some ⟨g,0,none⟩/\W.cell? ⟨g,j,none⟩=some (.pointer (some ⟨aa j,0,none⟩)))/\Hid (ak 43 #[aC x,ab a,.pointer (some ⟨aa j,0,none⟩)] W λe w'=>e=.returned (.tuple #[])/\Hid (k q (j+1) w'))))(z:Hid (∀q j W,j<sl->o q j W->(∃g,sa=some ⟨g,0,none⟩/\W.cell? ⟨g,j*5,none⟩=some (ab (C j))/\W.cell? ⟨g,j*5+1,none⟩=some (ab (D j))/\W.cell? ⟨g,j*5+2,none⟩=some (ab (E j))/\W.cell? ⟨g,j*5+3,none⟩=some (af (F j))/\W.cell? ⟨g,j*5+4,none⟩=some (ae (xa j) (G j) (xc j)))/\Hid (∀Z,aj W Z->ak 82 #[aC x,ab a,ab (C j),.agg #[ab (D j),ab (E j),af (F j),ae (xa j) (G j) (xc j)]] Z λe w'=>e=.returned (.tuple #[])/\Hid (o q (j+1) w'))))(t:Hid (∀q j W,j<kl->p q j W->(∃g,ka=some ⟨g,0,none⟩/\W.cell? ⟨g,j,none⟩=some (ab (aq j)))/\Hid (ak 83 #[aC x,ab a,ab (aq j)] W λe w'=>e=.returned (.tuple #[])/\Hid (p q (j+1) w'))))(s:Hid (∀q W,p q kl W->(f=1->ak 48 #[aC x,ab a,ab 1] W λe w'=>e=.returned (.tuple #[])/\Hid (R w'))/\(f≠1->R W))):ak 49 #[aC x,ab a,.agg #[ab O,ab P,af Q,ae ma T S,ab f,ae sa sl sc,ae pa pl pc,ae ka kl kc],ae ar vl aD] w λe w'=>e=.returned (.tuple #[])/\Hid (R w'):=by
 go_enter func49,ntmps49;go_upto_region 1 with fail;generalize m:w.alloc _=au;obtain⟨q,B⟩:∃q,q=w.heap.size:=⟨_,rfl⟩;rw[<-B];have V:Hid (k q 0 au):=X q au (by rw[<-m];exact(ao _ _).alloc (am _) _) (dA B.symm) (by rw[<-m,B];exact aA _ _);clear m B X;go_wp2_with fail;go_loopw [9,16] (λ_ c wr=>∃(j:Nat),j<=vl/\c=ab j/\Hid (k q j wr)) (λ_ c _=>vl-(intOf c).toNat)
 case atStart=>exact⟨0,aH _,rfl,V⟩
 case round=>
 obtain⟨j,A,rfl,b⟩:=hrel;by_cases l:j<vl
 ·obtain⟨⟨g,rfl,M⟩,n⟩:=I.out q j wr l b;have al:(0:Int)<=(j:Int):=by omega
  have an:(j:Int)<(vl:Int):=by omega
  clear H y i I z t s b;go_wp2_with fail;refine n.mono ?_;rintro e d ⟨rfl,h⟩;go_wp2_with fail;go_roundw
  case rel=>exact⟨j+1,by omega,by go_num,h⟩
  case measure=>simp[intOf];omega
 obtain rfl:j=vl:=by omega
 have K:=ap (H _ _ b);clear b I H V A l;have az:wr.cell? ⟨q,5,none⟩=some (ae sa sl sc):=ag (i q 0 wr (ai (ah K))) 5;go_wp2_with fail;clear az;go_loopw [11,28] (λ_ c U=>∃(j:Nat),j<=sl/\c=ab j/\Hid (o q j U)) (λ_ c _=>sl-(intOf c).toNat)
 case atStart=>exact⟨0,aH _,rfl,K⟩
 case round=>
 clear K;obtain⟨j,A,rfl,b⟩:=hrel;by_cases l:j<sl
 ·obtain⟨⟨g,rfl,M,aw,ax,ay,ad⟩,n⟩:=z.out q j _ l b;have al:(0:Int)<=(j:Int):=by omega
  have an:(j:Int)<(sl:Int):=by omega
  clear y i z t s b;go_upto_region 9 with fail;generalize m:World.alloc _ _=d;have r:d.heap[wr.heap.size]?=some (.cells #[ab (C j),ab (D j),ab (E j),af (F j),ae (xa j) (G j) (xc j)] 177):=by
   rw[<-m];exact aA _ _
  have av:=ap (n d (by rw[<-m];exact(ao _ _).alloc (am _) _));generalize wr.heap.size=u at*;have d0:d.cell? ⟨u,0,none⟩=some (ab (C j)):=ag r 0;have d1:d.cell? ⟨u,1,none⟩=some (ab (D j)):=ag r 1;have d2:d.cell? ⟨u,2,none⟩=some (ab (E j)):=ag r 2;have d3:d.cell? ⟨u,3,none⟩=some (af (F j)):=ag r 3;have d4:d.cell? ⟨u,4,none⟩=some (ae (xa j) (G j) (xc j)):=ag r 4;clear m r n M aw ax ay ad;go_wp2_with fail;refine av.mono ?_;rintro e aJ ⟨rfl,h⟩;go_wp2_with fail;go_roundw
  case rel=>exact⟨j+1,by omega,by go_num,h⟩
  case measure=>simp[intOf];omega
 obtain rfl:j=sl:=by omega
 have L:=ap (y _ _ b);clear b z y A l;have aB:wr.cell? ⟨q,7,none⟩=some (ae ka kl kc):=ag (i q 0 wr (ai (ai L))) 7;go_wp2_with fail;clear aB;go_loopw [13,43] (λ_ c U=>∃(j:Nat),j<=kl/\c=ab j/\Hid (p q j U)) (λ_ c _=>kl-(intOf c).toNat)
 case atStart=>exact⟨0,aH _,rfl,L⟩
 case round=>
 clear L;obtain⟨j,A,rfl,b⟩:=hrel;by_cases l:j<kl
 ·obtain⟨⟨g,rfl,M⟩,n⟩:=t.out q j _ l b;have al:(0:Int)<=(j:Int):=by omega
  have an:(j:Int)<(kl:Int):=by omega
  clear i t s b;go_wp2_with fail;refine n.mono ?_;rintro e d ⟨rfl,h⟩;go_wp2_with fail;go_roundw
  case rel=>exact⟨j+1,by omega,by go_num,h⟩
  case measure=>simp[intOf];omega
 obtain rfl:j=kl:=by omega
 have ad:wr.cell? ⟨q,4,none⟩=some (ab f):=ag (i q _ wr (ai (ai b))) 4;have Y:=ap (s q _ b);clear b t i s;by_cases N:f=1
 ·subst N;have J:=ap (Y.1 rfl);go_wp2_with fail;refine J.mono ?_;rintro e d ⟨rfl,h⟩;go_wp2_with fail;exact dh (v:=.tuple #[]) (by simp[results]) rfl ⟨rfl,h⟩
 ·have J:=ap (Y.2 N);have aE:(f==1)=false:=by simpa using N
  go_wp2_with fail;exact dh (v:=.tuple #[]) (by simp[results]) rfl ⟨rfl,J⟩
def qd(M:Nat->Prop)(a:Nat)(d b:fT)(w w':World):Prop:=bt (λq=>d.ow q<0) w w'/\(∀q,q<w.heap.size->¬M q->b.ow q=d.ow q)/\(∀q,q<w.heap.size->M q->0<=b.ow q)/\b.k=d.k/\b.es.length<=d.es.length+a/\b.wn<=d.wn+a/\b.bn<=d.bn+a
section
variable {p:jY} {s:Sy} {d d1 d2:fT} {w w1 w2:World} {M:Nat->Prop} {a b:Nat}
theorem qd.up(m:qd M a d d1 w w1)(k:dS b d1 d2 w1 w2):qd M (a+b) d d2 w w2:=by
 obtain⟨h,i,j,n,q,r,s⟩:=m;obtain⟨o,l,p,u,v,x⟩:=k;have t:=h.size;refine⟨h.trans o λc e g=>?_,λc e f=>(l c (by omega)).trans (i c e f),λc e f=>by rw[l c (by omega)];exact j c e f,p.trans n,by omega,by omega,by omega⟩;by_cases f:M c
 ·have:=j c e f;omega
 ·rw[i c e f]at g;exact g
theorem qd.ad{M':Nat->Prop}(m:qd M a d d1 w w1)(k:NT M' b d1 d2 w1 w2)(o:∀q,M' q->M q):qd M (a+b) d d2 w w2:=by
 obtain⟨h,i,j,n,t,u,v⟩:=m;obtain⟨p,l,r,s,y,z,A⟩:=k;have x:=h.size;refine⟨h.trans p λq e g=>?_,λq e c=>(l q (by omega) λf=>c (o q f)).trans (i q e c),λq e c=>?_,s.trans n,by omega,by omega,by omega⟩
 ·by_cases c:M q
  ·have:=j q e c;omega
  ·rw[i q e c]at g;exact g
 ·by_cases f:M' q
  ·have:=r q f;omega
  ·rw[l q (by omega) f];exact j q e c
theorem qd.mono(c:qd M a d d1 w w1)(l:a<=b):qd M b d d1 w w1:=by
 obtain⟨e,f,g,h,i,j,k⟩:=c;exact⟨e,f,g,h,by omega,by omega,by omega⟩
theorem FH.ug{m:Nat}{x:Tm m}(e:FH d w x)(k:qd M a d d1 w w1):FH d1 w1 x:=by
 have g:=eS k.1 (D:=λb=>0<=d.ow b/\b<w.heap.size) (λb c f=>by omega) ⟨e.1,In.offB e.2 e.1⟩;refine⟨g.1,g.2.mono λb c=>?_⟩;by_cases f:M b
 ·exact k.2.2.1 b c.2 f
 ·rw[k.2.1 b c.2 f];exact c.1
theorem A1(a:Int):(l:List (Int×ByteArray×Tc))->(s:Sy)->(l.foldl (λs x=>s.add a x.2.1 x.2.2) s).ps.length=s.ps.length+l.length/\(l.foldl (λs x=>s.add a x.2.1 x.2.2) s).last=s.last+l.length
 | [],s=>by simp
 | x::l,s=>by
  have b:=A1 a l (s.add a x.2.1 x.2.2);rw[gw,b.1,b.2];simp only[Sy.add,Sy.tell,bm,bi,iw];omega
theorem bj.follow(aD:bj p s d w){a:Int}(ao:dx a)(i:Tk)(a5:Ao 8 i.sends i.spawns i.links)(y0 y1:Int)(y2:ByteArray)(ya:Option Addr)(yl yc:Nat){N az aW c B:Nat}{sa:Option Addr}{sl sc:Nat}{pa:Option Addr}{pl pc:Nat}{ka:Option Addr}{kl kc:Nat}{O:Option Addr}{vl S:Nat}{L:List (Int×Tm (N+1))}{K:List Nat}{ay:Nat->Prop}(be:w.ownsRow az 177 5 (ae sa sl sc) sl (L.flatMap λg=>Nt g.1 g.2))(a7:w.ownsRow az 3 1 (ae ka kl kc) kl (i.links.map λu=>ab u))(bg:w.ownsRow aW 65 1 (ae O vl S) vl (K.map Al))(a8:L.length=sl/\i.links.length=kl/\K.length=vl/\i.spawns.length=vl)(aq:L.map (λg=>(g.1,cn _ g.2))=i.sends)(bf:∀g∈L,bz _ g.2=0/\FH d w g.2)(ba:∀q,((Value.slice sa sl sc).ownBlock=some q\/(Value.slice ka kl kc).ownBlock=some q\/(Value.slice O vl S).ownBlock=some q)->0<=d.ow q)(a2:l7 p.lo p.room (d.k+201) ay B w i.spawns K c)(bs:B<=w.heap.size)(how:∀q,c<=q->q<B->d.ow q=0)(a9:s.may vl=true)(bw:d.k<=47000)(bu:d.es.length<=97000)(bE:d.wn<=900000)(bv:d.bn<=900000):ak 49 #[aC p.b,ab a,OP y0 y1 y2 ya yl yc i.fate sa sl sc pa pl pc ka kl kc,ae O vl S] w λe w'=>e=.returned (.tuple #[])/\Hid (∃P,bj p (s.follow a i) P w'/\qd (λq=>c<=q/\q<B) 200 d P w w'):=by
 obtain⟨bh,bF,bG,bH⟩:=a8;obtain⟨⟨aB,bq,br⟩,aY,aZ⟩:=a5;have bC:=J9 a9;have bD:sl<=8:=by rw[<-bh];rw[<-aq,ee]at aB;exact aB
 have U:∀{E:Type}(l:List E)(g:E)(f:Nat),f<l.length->l[f]?=some (l.getD f g):=λl g f j=>by
  rw[mR,aI j];rfl
 obtain⟨n,ag⟩:∃n:Nat->Int×Tm (N+1),∀f,f<sl->L[f]?=some (n f):=⟨_,λf j=>U L (0,((0,0,⟨#[]⟩),(none,0),[])) f (by omega)⟩;obtain⟨ax,aj⟩:∃n:Nat->Int,∀f,f<kl->i.links[f]?=some (n f):=⟨_,λf j=>U i.links 0 f (by omega)⟩;obtain⟨av,aE⟩:∃n:Nat->Nat,∀f,f<vl->K[f]?=some (n f):=⟨_,λf j=>U K 0 f (by omega)⟩;obtain⟨bm,aG⟩:∃n:Nat->Int×ByteArray×Tc,∀f,f<vl->i.spawns[f]?=some (n f):=⟨_,λf j=>U i.spawns (0,⟨#[]⟩,tA) f (by omega)⟩;have ap:∀q,((Value.slice sa sl sc).ownBlock=some q\/(Value.slice ka kl kc).ownBlock=some q\/(Value.slice O vl S).ownBlock=some q)->¬d.ow q<0:=λq g=>by have:=ba q g;omega
 have a3:∀h,bt (λq=>d.ow q<0) w h->∀f,f<sl->∃o,sa=some ⟨o,0,none⟩/\∀(t:Nat)(u:Value),(Nt (n f).1 (n f).2)[t]?=some u->h.cell? ⟨o,f*5+t,none⟩=some u:=λh Q f j=>by
  obtain⟨_,_,y,_,D⟩:=rI (bk be Q λq g=>ap q (ah g)) (by decide) λg=>rfl;injection y with y;subst y;obtain⟨o,A,_,C⟩:=D f _ (ag f j);exact⟨o,A,C⟩
 have a1:∀h,bt (λq=>d.ow q<0) w h->∀f,f<kl->∃o,ka=some ⟨o,0,none⟩/\h.cell? ⟨o,f,none⟩=some (ab (ax f)):=λh Q f j=>by
  have R:=bk a7 Q λq g=>ap q (ai (ah g));rw[List.map_eq_flatMap]at R;obtain⟨_,_,y,_,D⟩:=rI R (by decide) λg=>rfl;injection y with y;subst y;obtain⟨o,A,_,C⟩:=D f _ (aj f j);have:=C 0 _ rfl;simp only[Nat.mul_one,gC]at this;exact⟨o,A,this⟩
 have a4:∀h,bt (λq=>d.ow q<0) w h->∀f,f<vl->∃o,O=some ⟨o,0,none⟩/\h.cell? ⟨o,f,none⟩=some (.pointer (some ⟨av f,0,none⟩)):=λh Q f j=>by
  have R:=bk bg Q λq g=>ap q (ai (ai g));rw[List.map_eq_flatMap]at R;obtain⟨_,_,y,_,D⟩:=rI R (by decide) λg=>rfl;injection y with y;subst y;obtain⟨o,A,_,C⟩:=D f _ (aE f j);have:=C 0 _ rfl;simp only[Nat.mul_one,gC]at this;exact⟨o,A,this⟩
 have aL:∀{E:Type}{l:List E}{f:Nat}{g:E},l[f]?=some g->l.drop f=g::l.drop (f+1):=λ{E l f g} e=>by
  obtain⟨a0,rfl⟩:=aS.1 e;exact eH a0
 have ar:∀{E:Type}{l:List E}{f:Nat}{g:E},l[f]?=some g->l.take (f+1)=l.take f++ [g]:=λ{E l f g} e=>by
  rw[du,e];rfl
 obtain⟨V,aO⟩:∃V,V=i.spawns.foldl (λs x=>s.add a x.2.1 x.2.2) s:=⟨_,rfl⟩;obtain⟨W,aP⟩:∃W,W=i.sends.foldl (λs x=>s.send a x.1 x.2) V:=⟨_,rfl⟩;obtain⟨X,aQ⟩:∃X,X=i.links.foldl (λs x=>s.link a x) W:=⟨_,rfl⟩;have bd:s.follow a i=if i.fate=1 then X.fin a 1 else X:=by rw[aQ,aP,aO];rfl
 let aA:Obj:=.cells #[ab y0,ab y1,af y2,ae ya yl yc,ab i.fate,ae sa sl sc,ae pa pl pc,ae ka kl kc] 117;let Z:Nat->Prop:=λq=>c<=q/\q<B;let aw:Sy->Nat->Nat->World->Prop:=λbi k q h=>∃d1,bj p bi d1 h/\qd Z k d d1 w h/\(w.heap.size<=q/\q<h.heap.size/\h.heap[q]?=some aA/\d1.ow q=0)
 refine zR p.b a y0 y1 y2 ya yl yc i.fate sa sl sc pa pl pc ka kl kc O vl S av (λf=>(n f).1) (λf=>(n f).2.1.1) (λf=>(n f).2.1.2.1) (λf=>(n f).2.1.2.2) (λf=>(n f).2.2.1.1) (λf=>(n f).2.2.2.length) (λf=>(n f).2.2.1.2) ax w
  (λq f h=>∃d1,bj p ((i.spawns.take f).foldl (λs x=>s.add a x.2.1 x.2.2) s) d1 h/\qd Z f d d1 w h/\(w.heap.size<=q/\q<h.heap.size/\h.heap[q]?=some aA/\d1.ow q=0)/\∃T,c<=T/\l7 p.lo p.room (d.k+201) ay B h (i.spawns.drop f) (K.drop f) T/\∀q,T<=q->q<B->d1.ow q=0)
  (λq f h=>aw ((i.sends.take f).foldl (λs x=>s.send a x.1 x.2) V) (vl+2*f) q h) (λq f h=>aw ((i.links.take f).foldl (λs x=>s.link a x) W) (vl+2*sl+f) q h) (λw'=>∃P,bj p (s.follow a i) P w'/\qd Z 200 d P w w') (by omega) (by omega) (by omega) (λq h al aM aH=>?_) (λq h z=>?_) (λq h z=>?_) (λq f h z=>?_) (λq f h j z=>?_) (λq f h j z=>?_) (λq f h j z=>?_) λq h z=>?_
 ·have bc:=(aF.1 aH).1;refine⟨d,aD.later al,⟨aK al _,λ_ _ _=>rfl,λq _ g=>by rw[how q g.1 g.2];exact jh 0,rfl,am _,am _,am _⟩,⟨aM,bc,aH,?_⟩,c,am _,a2.kept (aK al λ_=>False) (λ_ _ g=>g.elim) (λ_ _ g=>g) (am _),how⟩;by_cases g:d.ow q=0
  ·exact g
  ·have:=(aD.low q g).2;omega
 ·obtain⟨d1,r,m,F,_⟩:=z;rw[bA (by omega),<-aO]at r;exact⟨d1,r,m,F⟩
 ·obtain⟨d1,r,m,F⟩:=z;rw[bA (by rw[<-aq,ee];omega),<-aP]at r;exact⟨d1,r,m,F⟩
 ·rcases z with⟨d1,_,_,F,_⟩|⟨d1,_,_,F⟩|⟨d1,_,_,F⟩
  ·exact F.2.2.1
  ·exact F.2.2.1
  ·exact F.2.2.1
 ·obtain⟨d1,r,m,⟨A,G,C,H⟩,T,bI,aT,au⟩:=z;refine⟨a4 h m.1 f j,?_⟩;rw[aL (aG f j),aL (aE f j)]at aT;obtain⟨aX,aa,bJ,aU,_,aV⟩:=aT;have a6:=A1 a (i.spawns.take f) s;rw[dG]at a6;have bB:=aV.le;have bx:=m.2.2.2.1;refine(r.add a (M:=λq=>aX<=q/\q<aa) (aU.mono (λ_ g=>g) (by omega) (P1.lie2 aU)) (λq g=>au q (by omega) (by omega)) (by omega) (by omega) (by have:=m.2.2.2.2.1;omega)).mono ?_;rintro e w' ⟨rfl,I⟩;obtain⟨d2,J,v⟩:=I.out;have aN:=v.1.size;refine⟨rfl,d2,?_,m.ad v λq g=>⟨by omega,by omega⟩,⟨A,by omega,?_,?_⟩,aa,by omega,aV.kept2 (c0:=aa) v.1 (λq aM bb g=>?_) (λ_ _ g=>g) (am _) (am _),λq bK bl=>?_⟩
  ·rw[ar (aG f j),jj];exact J
  ·rw[v.1.block q G (by rw[H];decide)];exact C
  ·rw[v.2.1 q G λg=>by omega];exact H
  ·have:=au q (by omega) bb;omega
  ·have:=m.1.size;rw[v.2.1 q (by omega) λg=>by omega];exact au q (by omega) bl
 ·obtain⟨d1,r,m,A,G,C,H⟩:=z;obtain⟨o,y,D⟩:=a3 h m.1 f j;refine⟨⟨o,y,D 0 _ rfl,D 1 _ rfl,D 2 _ rfl,D 3 _ rfl,D 4 _ rfl⟩,λbo an=>?_⟩;obtain⟨f1,f2⟩:=bf _ (aJ (ag f j));have aR:i.sends[f]?=some ((n f).1,cn _ (n f).2):=by rw[<-aq,dt,ag f j];rfl
  refine((r.later an).send ⟨ao,aY _ (aJ aR)⟩ (n f).2 ((f2.ug m).up (dS.later d1 an)) f1 (by have:=m.2.2.2.2.2.1;omega) (by have:=m.2.2.2.2.1;omega)).mono ?_;rintro e w' ⟨rfl,I⟩;obtain⟨d2,J,v⟩:=I.out;have Y:=(dS.later d1 an).trans v;have aN:=Y.1.size;refine⟨rfl,d2,?_,(m.up Y).mono (by omega),A,by omega,?_,?_⟩
  ·rw[ar aR,jj];exact J
  ·rw[Y.1.block q G (by rw[H];decide)];exact C
  ·rw[Y.2.1 q G];exact H
 ·obtain⟨d1,r,m,A,G,C,H⟩:=z;refine⟨a1 h m.1 f j,?_⟩;refine(r.link ao (aZ _ (aJ (aj f j))) (by have:=m.2.2.2.2.2.2;omega)).mono ?_;rintro e w' ⟨rfl,I⟩;obtain⟨d2,J,v⟩:=I.out;have aN:=v.1.size;refine⟨rfl,d2,?_,(m.up v).mono (by omega),A,by omega,?_,?_⟩
  ·rw[ar (aj f j),jj];exact J
  ·rw[v.1.block q G (by rw[H];decide)];exact C
  ·rw[v.2.1 q G];exact H
 ·obtain⟨d1,r,m,A,G,C,H⟩:=z;rw[bA (by omega),<-aQ]at r;rw[bd];refine⟨λe=>?_,λe=>⟨d1,by rw[if_neg e];exact r,m.mono (by omega)⟩⟩;refine(r.fin ao (by have:=m.2.2.2.2.1;omega)).mono ?_;rintro bp w' ⟨rfl,I⟩;obtain⟨d2,J,v⟩:=I;exact⟨rfl,d2,by rw[if_pos e];exact J,(m.up v).mono (by omega)⟩
end
end Go.Proofs.YtmmahddlcldmiaaGreat
