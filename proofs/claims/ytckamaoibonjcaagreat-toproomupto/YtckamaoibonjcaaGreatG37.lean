/- What is proved here: plain facts and contracts that the claimed theorem stands on. No condition but those that each names. -/
import Derived.Test.YtckamaoibonjcaaGreatG36
namespace Go.Proofs.YtckamaoibonjcaaGreat
open Go.RowKit
set_option maxHeartbeats 2000000
set_option maxRecDepth 100000
abbrev iV(M:Nat)(o:Option (Cl (M+1)))(w:World)(e:Ending)(w':World):Prop:=qm (eK (M+1)) (gO (M+1)) (jD (M+1)) (BU (M+1)) o w e w'
def OM(M:Nat):Cl (M+1):=((zT M,zT M,zT M),(none,0),[])
theorem lw{M:Nat}{o:Option (Cl (M+1))}{w w':World}(b:o=none)(a:aj w w'):iV M o w (.returned (.tuple #[.agg #[ab 0,ab 0,af .empty,ae none 0 0,ab 0,ab 0,af .empty,ae none 0 0,ae none 0 0,ab 0,ab 0,af .empty,ae none 0 0],.bool false])) w':=by
 subst b;exact⟨OM M,false,rfl,a,rfl,⟨⟨kP _ _ _,kP _ _ _,kP _ _ _⟩,⟨ak _,aE _⟩,ah rfl⟩,⟨⟨ah rfl,ah rfl,ah rfl⟩,ah rfl⟩,λd c=>by cases c⟩
theorem lW{n:Nat}{m:Tm (n+1)}(c:az ⟨n+1,m⟩)(d:m.1.1=4):m.2.2.length<=8:=by
 have b:=c (bA n m) (by simp[aw,bA]);unfold cv at b;have a:(bA n m).1.1=4:=d;rw[if_neg (by rw[a];omega),if_neg (by rw[a];omega),if_neg (by rw[a];omega),if_pos a]at b;simp only[aA,bU]at b;have e:(m.2.2.length:Int)<=8:=b.1.2;omega
theorem th{w:World}{q:Nat}{c0 b f g h i k l m n c d e:Value}{t:TypeId}(a:w.heap[q]?=some (.cells #[c0,b,f,g,h,i,k,l,m,n,c,d,e] t)):(w.cell? ⟨q,0,none⟩=some c0/\w.cell? ⟨q,1,none⟩=some b/\w.cell? ⟨q,2,none⟩=some f/\w.cell? ⟨q,3,none⟩=some g/\w.cell? ⟨q,4,none⟩=some h/\w.cell? ⟨q,5,none⟩=some i/\w.cell? ⟨q,6,none⟩=some k/\w.cell? ⟨q,7,none⟩=some l/\w.cell? ⟨q,8,none⟩=some m/\w.cell? ⟨q,9,none⟩=some n/\w.cell? ⟨q,10,none⟩=some c/\w.cell? ⟨q,11,none⟩=some d/\w.cell? ⟨q,12,none⟩=some e)/\(∀j,w.frozen? ⟨q,j,none⟩=false)/\q<w.heap.size:=
 ⟨⟨ar a 0,ar a 1,ar a 2,ar a 3,ar a 4,ar a 5,ar a 6,ar a 7,ar a 8,ar a 9,ar a 10,ar a 11,ar a 12⟩,λj=>cP a j,(aD.1 a).1⟩
theorem sX(M _n:Nat)(k h:Int)(s:ByteArray)(xa:Option Addr)(j xc:Nat)(i:ByteArray)(a:Option Addr)(len c:Nat)(w:World)(o:Option (Cl (M+1)))(D:Hid (o=none))(F:(i.toList==[111,110])=false)(b:Hid (∀w1,aj w w1->am 90 #[.agg #[ab k,ab h,af s,ae xa j xc]] w1 λe w'=>e=.returned (.tuple #[af i,ae a len c])/\aj w1 w')):am 126 #[.agg #[ab k,ab h,af s,ae xa j xc]] w (iV M o w):=by
 go_enter Tryz.func126,Tryz.ntmps126;go_wp2_with fail;refine(b.out _ (by go_grown)).mono ?_;rintro e w1 ⟨rfl,d⟩;obtain⟨E,g,f,I⟩:=ed d;have l:=ao f;have m:=ao g;clear d E g f b;obtain⟨⟨n,d1,t,u,x,y,z,A,B,C,p,q,r⟩,G,H⟩:=th m.out;go_wp2_with fail;exact av (v:=.tuple #[.agg #[ab 0,ab 0,af .empty,ae none 0 0,ab 0,ab 0,af .empty,ae none 0 0,ae none 0 0,ab 0,ab 0,af .empty,ae none 0 0],.bool false]) (by simp[results,Tryz.results126,go_sem,n,d1,t,u,x,y,z,A,B,C,p,q,r];rfl) rfl (lw D.out ((qC _ _ _ _ _ _ _ _ _ _ _ _ _ _ _).below l.out (by omega)))
theorem uQ(M _n:Nat)(k h:Int)(s:ByteArray)(xa:Option Addr)(j xc:Nat)(i:ByteArray)(a:Option Addr)(len c:Nat)(w:World)(o:Option (Cl (M+1)))(D:Hid (o=none))(F:(i.toList==[111,110])=true)(_hl:((len:Int)==4)=false)(H:((len:Int) !=4)=true)(b:Hid (∀w1,aj w w1->am 90 #[.agg #[ab k,ab h,af s,ae xa j xc]] w1 λe w'=>e=.returned (.tuple #[af i,ae a len c])/\aj w1 w')):am 126 #[.agg #[ab k,ab h,af s,ae xa j xc]] w (iV M o w):=by
 go_enter Tryz.func126,Tryz.ntmps126;go_wp2_with fail;refine(b.out _ (by go_grown)).mono ?_;rintro e w1 ⟨rfl,d⟩;obtain⟨E,g,f,J⟩:=ed d;have l:=ao f;have m:=ao g;clear d E g f b;obtain⟨⟨n,d1,t,u,x,y,z,A,B,C,p,q,r⟩,G,I⟩:=th m.out;go_wp2_with fail;exact av (v:=.tuple #[.agg #[ab 0,ab 0,af .empty,ae none 0 0,ab 0,ab 0,af .empty,ae none 0 0,ae none 0 0,ab 0,ab 0,af .empty,ae none 0 0],.bool false]) (by simp[results,Tryz.results126,go_sem,n,d1,t,u,x,y,z,A,B,C,p,q,r];rfl) rfl (lw D.out ((qC _ _ _ _ _ _ _ _ _ _ _ _ _ _ _).below l.out (by omega)))
theorem sV(M _n:Nat)(k l:Int)(s:ByteArray)(xa:Option Addr)(n xc:Nat)(m:ByteArray)(a po c:Nat)(w:World)(o:Option (Cl (M+1)))(F:Hid (o=none))(I:(m.toList==[111,110])=true)(G:a<w.heap.size)(j:Int)(f:w.cell? ⟨a,po+8,none⟩=some (ab j))(K:(j !=4)=true)(d:Hid (∀w1,aj w w1->am 90 #[.agg #[ab k,ab l,af s,ae xa n xc]] w1 λe w'=>e=.returned (.tuple #[af m,ae (some ⟨a,po,none⟩) 4 c])/\aj w1 w')):am 126 #[.agg #[ab k,ab l,af s,ae xa n xc]] w (iV M o w):=by
 go_enter Tryz.func126,Tryz.ntmps126;go_wp2_with fail;refine(d.out _ (by go_grown)).mono ?_;rintro e w1 ⟨rfl,g⟩;obtain⟨H,i,h,O⟩:=ed g;have b:=ao h;have p:=ao i;clear g H i h d;replace f:=(aq b.out _ _ G).trans f;have L:a<w1.heap.size:=by omega
 obtain⟨⟨q,d1,x,y,z,A,B,C,D,E,r,t,u⟩,J,N⟩:=th p.out;go_wp2_with fail;exact av (v:=.tuple #[.agg #[ab 0,ab 0,af .empty,ae none 0 0,ab 0,ab 0,af .empty,ae none 0 0,ae none 0 0,ab 0,ab 0,af .empty,ae none 0 0],.bool false]) (by simp[results,Tryz.results126,go_sem,q,d1,x,y,z,A,B,C,D,E,r,t,u];rfl) rfl (lw F.out ((qC _ _ _ _ _ _ _ _ _ _ _ _ _ _ _).below b.out (by omega)))
theorem Lw{n g a po:Nat}{w w':World}{y x t:Tm (n+1)}(d:a<g)(c:bE g w w')(k:(w.cell? ⟨a,po,none⟩=some (ab y.1.1)/\w.cell? ⟨a,po+1,none⟩=some (ab y.1.2.1)/\w.cell? ⟨a,po+2,none⟩=some (af y.1.2.2)/\w.cell? ⟨a,po+3,none⟩=some (ae y.2.1.1 y.2.2.length y.2.1.2))/\(w.cell? ⟨a,po+4,none⟩=some (ab x.1.1)/\w.cell? ⟨a,po+5,none⟩=some (ab x.1.2.1)/\w.cell? ⟨a,po+6,none⟩=some (af x.1.2.2)/\w.cell? ⟨a,po+7,none⟩=some (ae x.2.1.1 x.2.2.length x.2.1.2))/\(w.cell? ⟨a,po+12,none⟩=some (ab t.1.1)/\w.cell? ⟨a,po+13,none⟩=some (ab t.1.2.1)/\w.cell? ⟨a,po+14,none⟩=some (af t.1.2.2)/\w.cell? ⟨a,po+15,none⟩=some (ae t.2.1.1 t.2.2.length t.2.1.2))):(w'.cell? ⟨a,po,none⟩=some (ab y.1.1)/\w'.cell? ⟨a,po+1,none⟩=some (ab y.1.2.1)/\w'.cell? ⟨a,po+2,none⟩=some (af y.1.2.2)/\w'.cell? ⟨a,po+3,none⟩=some (ae y.2.1.1 y.2.2.length y.2.1.2))/\(w'.cell? ⟨a,po+4,none⟩=some (ab x.1.1)/\w'.cell? ⟨a,po+5,none⟩=some (ab x.1.2.1)/\w'.cell? ⟨a,po+6,none⟩=some (af x.1.2.2)/\w'.cell? ⟨a,po+7,none⟩=some (ae x.2.1.1 x.2.2.length x.2.1.2))/\(w'.cell? ⟨a,po+12,none⟩=some (ab t.1.1)/\w'.cell? ⟨a,po+13,none⟩=some (ab t.1.2.1)/\w'.cell? ⟨a,po+14,none⟩=some (af t.1.2.2)/\w'.cell? ⟨a,po+15,none⟩=some (ae t.2.1.1 t.2.2.length t.2.1.2)):=by
 have b:=λo=>fS c (show a≠g by omega) o;exact⟨⟨(b _).trans k.1.1,(b _).trans k.1.2.1,(b _).trans k.1.2.2.1,(b _).trans k.1.2.2.2⟩,⟨(b _).trans k.2.1.1,(b _).trans k.2.1.2.1,(b _).trans k.2.1.2.2.1,(b _).trans k.2.1.2.2.2⟩,(b _).trans k.2.2.1,(b _).trans k.2.2.2.1,(b _).trans k.2.2.2.2.1,(b _).trans k.2.2.2.2.2⟩
theorem sW(M n:Nat)(k aP:Int)(s:ByteArray)(xa:Option Addr)(aT xc:Nat)(aS:ByteArray)(d po c:Nat)(w:World)(y x m t:Tm (n+1))(ah:n+1<=M+1)(an:Option (List (Ac (M+1))))(o:Option (Cl (M+1)))(aH:Hid (o=an.map λl=>((aO (M+1) (n+1) y,aO (M+1) (n+1) x,aO (M+1) (n+1) t),(none,0),l)))(bt:(aS.toList==[111,110])=true)(h:d<w.heap.size)(Q:w.cell? ⟨d,po,none⟩=some (ab y.1.1))(R:w.cell? ⟨d,po+1,none⟩=some (ab y.1.2.1))(S:w.cell? ⟨d,po+2,none⟩=some (af y.1.2.2))(T:w.cell? ⟨d,po+3,none⟩=some (ae y.2.1.1 y.2.2.length y.2.1.2))(K:w.cell? ⟨d,po+4,none⟩=some (ab x.1.1))(L:w.cell? ⟨d,po+5,none⟩=some (ab x.1.2.1))(N:w.cell? ⟨d,po+6,none⟩=some (af x.1.2.2))(O:w.cell? ⟨d,po+7,none⟩=some (ae x.2.1.1 x.2.2.length x.2.1.2))(X:w.cell? ⟨d,po+8,none⟩=some (ab m.1.1))(ai:w.cell? ⟨d,po+9,none⟩=some (ab m.1.2.1))(ak:w.cell? ⟨d,po+10,none⟩=some (af m.1.2.2))(al:w.cell? ⟨d,po+11,none⟩=some (ae m.2.1.1 m.2.2.length m.2.1.2))(G:w.cell? ⟨d,po+12,none⟩=some (ab t.1.1))(H:w.cell? ⟨d,po+13,none⟩=some (ab t.1.2.1))(I:w.cell? ⟨d,po+14,none⟩=some (af t.1.2.2))(J:w.cell? ⟨d,po+15,none⟩=some (ae t.2.1.1 t.2.2.length t.2.1.2))(bi:m.1.1=4)(aB:Hid (∀w1,aj w w1->am 90 #[.agg #[ab k,ab aP,af s,ae xa aT xc]] w1 λe w'=>e=.returned (.tuple #[af aS,ae (some ⟨d,po,none⟩) 4 c])/\aj w1 w'))(au:Hid (∀w1,aj w w1->am 156 #[ae m.2.1.1 m.2.2.length m.2.1.2,.func (Fn.func 157) #[] #[]] w1 (kT 11 (fW (M+1)) (ij (M+1)) (lC (M+1)) (B4 (M+1)) an w1)))(aw:Hid (∀w1,aj w w1->am 54 #[.agg #[ab y.1.1,ab y.1.2.1,af y.1.2.2,ae y.2.1.1 y.2.2.length y.2.1.2]] w1 λe w'=>∃a:Tm (n+1),e=.returned (.agg #[ab a.1.1,ab a.1.2.1,af a.1.2.2,ae a.2.1.1 a.2.2.length a.2.1.2])/\Hid (aj w1 w'/\In w'.heap.size w' (n+1) a/\bZ (λq=>w1.heap.size<=q) (n+1) a/\ax (n+1) a (n+1) y=true)))(ay:Hid (∀w1,aj w w1->am 54 #[.agg #[ab x.1.1,ab x.1.2.1,af x.1.2.2,ae x.2.1.1 x.2.2.length x.2.1.2]] w1 λe w'=>∃a:Tm (n+1),e=.returned (.agg #[ab a.1.1,ab a.1.2.1,af a.1.2.2,ae a.2.1.1 a.2.2.length a.2.1.2])/\Hid (aj w1 w'/\In w'.heap.size w' (n+1) a/\bZ (λq=>w1.heap.size<=q) (n+1) a/\ax (n+1) a (n+1) x=true)))(az:Hid (∀w1,aj w w1->am 54 #[.agg #[ab t.1.1,ab t.1.2.1,af t.1.2.2,ae t.2.1.1 t.2.2.length t.2.1.2]] w1 λe w'=>∃a:Tm (n+1),e=.returned (.agg #[ab a.1.1,ab a.1.2.1,af a.1.2.2,ae a.2.1.1 a.2.2.length a.2.1.2])/\Hid (aj w1 w'/\In w'.heap.size w' (n+1) a/\bZ (λq=>w1.heap.size<=q) (n+1) a/\ax (n+1) a (n+1) t=true))):am 126 #[.agg #[ab k,ab aP,af s,ae xa aT xc]] w (iV M o w):=by
 go_enter Tryz.func126,Tryz.ntmps126;go_wp2_with fail;refine(aB.out _ (by go_grown)).mono ?_;rintro e w1 ⟨rfl,aD⟩;obtain⟨bm,aL,aE,bA⟩:=ed aD;have f:=ao aE;have aC:=ao aL;clear aD bm aL aE aB;replace Q:=(aq f.out _ _ h).trans Q;replace R:=(aq f.out _ _ h).trans R;replace S:=(aq f.out _ _ h).trans S;replace T:=(aq f.out _ _ h).trans T;replace K:=(aq f.out _ _ h).trans K;replace L:=(aq f.out _ _ h).trans L;replace N:=(aq f.out _ _ h).trans N;replace O:=(aq f.out _ _ h).trans O;replace X:=(aq f.out _ _ h).trans X;replace ai:=(aq f.out _ _ h).trans ai;replace ak:=(aq f.out _ _ h).trans ak;replace al:=(aq f.out _ _ h).trans al;replace G:=(aq f.out _ _ h).trans G;replace H:=(aq f.out _ _ h).trans H;replace I:=(aq f.out _ _ h).trans I;replace J:=(aq f.out _ _ h).trans J;have bk:d<w1.heap.size:=by omega
 rw[bi]at X;go_wp2_with fail;refine(au.out _ f.out).mono ?_;rintro e u ⟨l,j,r,ar,rfl,aA⟩;have U:=ao aA.out.1;have z:Hid (aj w u):=f.out.trans (U.out.mono f.out.size);have aX:=ao ((U.out.block (w.heap.size+1) (by omega)).trans aC.out);have bv:w1.heap.size<=u.heap.size:=U.out.size;have bl:d<u.heap.size:=by omega
 have B:Hid (∀w',aj u w'->(w'.cell? ⟨d,po,none⟩=some (ab y.1.1)/\w'.cell? ⟨d,po+1,none⟩=some (ab y.1.2.1)/\w'.cell? ⟨d,po+2,none⟩=some (af y.1.2.2)/\w'.cell? ⟨d,po+3,none⟩=some (ae y.2.1.1 y.2.2.length y.2.1.2))/\(w'.cell? ⟨d,po+4,none⟩=some (ab x.1.1)/\w'.cell? ⟨d,po+5,none⟩=some (ab x.1.2.1)/\w'.cell? ⟨d,po+6,none⟩=some (af x.1.2.2)/\w'.cell? ⟨d,po+7,none⟩=some (ae x.2.1.1 x.2.2.length x.2.1.2))/\(w'.cell? ⟨d,po+12,none⟩=some (ab t.1.1)/\w'.cell? ⟨d,po+13,none⟩=some (ab t.1.2.1)/\w'.cell? ⟨d,po+14,none⟩=some (af t.1.2.2)/\w'.cell? ⟨d,po+15,none⟩=some (ae t.2.1.1 t.2.2.length t.2.1.2))):=λw' bc=>by
  have i:=λo=>(aq bc d o bl).trans (aq U.out d o bk);exact⟨⟨(i _).trans Q,(i _).trans R,(i _).trans S,(i _).trans T⟩,⟨(i _).trans K,(i _).trans L,(i _).trans N,(i _).trans O⟩,(i _).trans G,(i _).trans H,(i _).trans I,(i _).trans J⟩
 obtain⟨W,ag⟩:∃W,l.length=W:=⟨_,rfl⟩;rw[ag];have aW:=ao ag;clear au aC Q R S T K L N O X ai ak al G H I J ag;obtain⟨⟨Q,R,S,T⟩,⟨K,L,N,O⟩,G,H,I,J⟩:=B.out u (ap _ _);go_wp2_with fail
 go_region_held3 (λw'=>(w'.cell? ⟨d,po,none⟩=some (ab y.1.1)/\w'.cell? ⟨d,po+1,none⟩=some (ab y.1.2.1)/\w'.cell? ⟨d,po+2,none⟩=some (af y.1.2.2)/\w'.cell? ⟨d,po+3,none⟩=some (ae y.2.1.1 y.2.2.length y.2.1.2))/\(w'.cell? ⟨d,po+4,none⟩=some (ab x.1.1)/\w'.cell? ⟨d,po+5,none⟩=some (ab x.1.2.1)/\w'.cell? ⟨d,po+6,none⟩=some (af x.1.2.2)/\w'.cell? ⟨d,po+7,none⟩=some (ae x.2.1.1 x.2.2.length x.2.1.2))/\(w'.cell? ⟨d,po+12,none⟩=some (ab t.1.1)/\w'.cell? ⟨d,po+13,none⟩=some (ab t.1.2.1)/\w'.cell? ⟨d,po+14,none⟩=some (af t.1.2.2)/\w'.cell? ⟨d,po+15,none⟩=some (ae t.2.1.1 t.2.2.length t.2.1.2))) (first|with_reducible assumption|with_reducible exact B.out _ A.out|with_reducible exact B.out _ F.out|with_reducible exact B.out _ E.out|with_reducible exact aV.out _ (qC _ _ _ _ _ _ _ _ _ _ _ _ _ _ _)|exact B.out _ (ap _ _).drew)
  ((first
   | (go_at_call 54;refine(aw.out _ z.out.drew).mono ?_;rintro e aQ ⟨a,rfl,V⟩;have E:=ao (cF V.out.1);clear aw)
   | (go_at_call 54;refine(ay.out _ (z.out.trans (E.out.mono z.out.size))).mono ?_;rintro e aR ⟨q,rfl,C⟩;have F:=ao (E.out.trans (C.out.1.mono E.out.size));clear ay)
   | (go_at_call 54;refine(az.out _ (z.out.trans (F.out.mono z.out.size))).mono ?_;rintro e p ⟨g,rfl,D⟩;have A:=ao (F.out.trans (D.out.1.mono F.out.size));clear az;have aY:=ao ((A.out.block (w.heap.size+1) (by omega)).trans aX.out);obtain⟨⟨a0,d1,a4,a5,a6,a7,a8,a9,ba,bb,a1,a2,a3⟩,bu,bz⟩:=th aY.out;have aV:=ao (λaZ (bf:bE (w.heap.size+1) p aZ)=>Lw (y:=y) (x:=x) (t:=t) (show d<w.heap.size+1 by omega) bf (B.out _ A.out)))))
 go_wp2_with fail;have aU:Hid (aj w p):=z.out.trans (A.out.mono z.out.size);have bw:u.heap.size<=aQ.heap.size:=E.out.size;have bx:u.heap.size<=aR.heap.size:=F.out.size;have aK:=D.out.1;have aJ:=C.out.1.trans (D.out.1.mono C.out.1.size);have Y:=iB (M:=M) ah ((V.out.2.1.below aJ).mono aJ.size) (V.out.2.2.1.mono λq (aI:u.heap.size<=q)=>(show w.heap.size+1<q by omega)) V.out.2.2.2;have Z:=iB (M:=M) ah ((C.out.2.1.below aK).mono aK.size) (C.out.2.2.1.mono λq (aI:aQ.heap.size<=q)=>(show w.heap.size+1<q by omega)) C.out.2.2.2;have aa:=iB (M:=M) ah D.out.2.1 (D.out.2.2.1.mono λq (aI:aR.heap.size<=q)=>(show w.heap.size+1<q by omega)) D.out.2.2.2;refine av (v:=.tuple #[.agg #[ab a.1.1,ab a.1.2.1,af a.1.2.2,ae a.2.1.1 a.2.2.length a.2.1.2,ab q.1.1,ab q.1.2.1,af q.1.2.2,ae q.2.1.1 q.2.2.length q.2.1.2,ae j W r,ab g.1.1,ab g.1.2.1,af g.1.2.2,ae g.2.1.1 g.2.2.length g.2.1.2],.bool ar]) (by simp[results,Tryz.results126,go_sem,a0,d1,a4,a5,a6,a7,a8,a9,ba,bb,a1,a2,a3]) rfl ?_;have e:eK (M+1) ((aO (M+1) (n+1) a,aO (M+1) (n+1) q,aO (M+1) (n+1) g),(j,r),l)=[ab a.1.1,ab a.1.2.1,af a.1.2.2,ae a.2.1.1 a.2.2.length a.2.1.2,ab q.1.1,ab q.1.2.1,af q.1.2.2,ae q.2.1.1 q.2.2.length q.2.1.2,ae j W r,ab g.1.1,ab g.1.2.1,af g.1.2.2,ae g.2.1.1 g.2.2.length g.2.1.2]:=by
  show hU (M+1) (aO (M+1) (n+1) a)++hU (M+1) (aO (M+1) (n+1) q)++(ae j l.length r::hU (M+1) (aO (M+1) (n+1) g))=_;rw[gg,gg,gg,aW.out];rfl
 have aN:∀w',bE (w.heap.size+1) p w'->iV M o w (.returned (.tuple #[.agg (eK (M+1) ((aO (M+1) (n+1) a,aO (M+1) (n+1) q,aO (M+1) (n+1) g),(j,r),l)).toArray,.bool ar])) w':=λw' aG=>by
  obtain⟨bB,bn,bo,bp,bq,br⟩:=aA.out;have ad:=cB (fq (M+1)) 11 (fW (M+1)) j;have bg:px p.heap.size p 11 (fW (M+1)) (ij (M+1) p.heap.size p) j l:=ad.mono A.out.size (ad.below A.out bp);have bj:sP (lC (M+1) (λb=>w.heap.size+1<b)) (λb=>w.heap.size+1<b) j l:=ad.1 _ _ _ (λb (bd:w1.heap.size<=b)=>(show w.heap.size+1<b by omega)) bq;have be:gO (M+1) p.heap.size p ((aO (M+1) (n+1) a,aO (M+1) (n+1) q,aO (M+1) (n+1) g),(j,r),l):=⟨⟨Y.1,Z.1,aa.1⟩,bo,bg⟩;have aF:jD (M+1) (λb=>w.heap.size+1<b) ((aO (M+1) (n+1) a,aO (M+1) (n+1) q,aO (M+1) (n+1) g),(j,r),l):=⟨⟨Y.2.1,Z.2.1,aa.2.1⟩,bj⟩;refine⟨((aO (M+1) (n+1) a,aO (M+1) (n+1) q,aO (M+1) (n+1) g),(j,r),l),ar,rfl,aG.below aU.out (by omega),?_,aG.stays (dX _) (P:=λb=>w.heap.size+1<b) (by omega) aF be,(dX _).1 _ _ _ (λb (bd:w.heap.size+1<b)=>(show w.heap.size<=b by omega)) aF,λbC aM=>?_⟩
  ·rw[bn,aH.out];cases an<;>rfl
  ·rw[aH.out]at aM;obtain⟨bs,bh,rfl⟩:=cd.1 aM;exact⟨⟨Y.2.2,Z.2.2,aa.2.2⟩,br bs bh⟩
 rw[e]at aN;exact aN _ (qC _ _ _ _ _ _ _ _ _ _ _ _ _ _ _)
theorem uP(M n:Nat)(ar:n<=M+1)(x:Tm n)(B:Nat)(w:World)(K:In B w n x)(ad:az ⟨n,x⟩)(g:B<=w.heap.size):am 126 #[dj n x] w (iV M (yB M n x) w):=by
 cases n with
 | zero=>exact K.elim
 | succ n=>
 obtain⟨G,c,i,aq,ap,m⟩:=qM n x B w K g;show am 126 #[.agg #[ab x.1.1,ab x.1.2.1,af x.1.2.2,ae x.2.1.1 x.2.2.length x.2.1.2]] w (iV M (rS M n (eL n x) (bJ n x)) w);have r:∀e∈bJ n x,az ⟨n,e⟩:=λe j=>dZ ad j;generalize eL n x=b at*;generalize bJ n x=d at*;have F:sr b Ki=(b.toList==[111,110]):=mO b [111,110];have get:∀k,k<d.length->∃e,d[k]?=some e:=λk v=>⟨d[k],aH v⟩;by_cases f:(b.toList==[111,110])=true
 ·by_cases q:d.length=4
  ·obtain⟨e,j⟩:=get 0 (by omega);obtain⟨u,D⟩:=get 1 (by omega);obtain⟨a,y⟩:=get 2 (by omega);obtain⟨t,C⟩:=get 3 (by omega);have h:rS M n b d=if bO ⟨n,a⟩=4 then (cE (rR M (n-1)) (DS n a)).map λl=>((aO (M+1) n e,aO (M+1) n u,aO (M+1) n t),(none,0),l)else none:=by
    unfold rS;rw[if_pos (by rw[F,f,q];rfl),j,D,y,C];rfl
   rw[q]at m;obtain⟨N,po,rfl⟩:=qE i (by omega);cases n with
   | zero=>exact(rm i j).elim
   | succ n=>
   obtain⟨⟨O,P,Q,R⟩,ah,au⟩:=gZ i j;obtain⟨⟨S,d1,T,U⟩,ai,_⟩:=gZ i D;obtain⟨⟨L,aj,ak,al⟩,I,_⟩:=gZ i y;obtain⟨⟨V,W,X,Y⟩,ag,_⟩:=gZ i C;by_cases o:a.1.1=4
   ·have A:rS M (n+1) b d=(cE (rR M n) a.2.2).map λl=>((aO (M+1) (n+1) e,aO (M+1) (n+1) u,aO (M+1) (n+1) t),(none,0),l):=by
      rw[h,if_pos (show bO ⟨n+1,a⟩=4 from o)];rfl
    have J:=r a (aG y);have aa:a.2.2.length<=8:=by
     exact lW J o
    exact sW M n _ _ _ _ _ _ b N po c w e u a t (by omega) (cE (rR M n) a.2.2) _ A f (by omega) (by simpa using O) (by simpa using P) (by simpa using Q) (by simpa using R) (by simpa using S) (by simpa using d1) (by simpa using T) (by simpa using U) (by simpa using L) (by simpa using aj) (by simpa using ak) (by simpa using al) (by simpa using V) (by simpa using W) (by simpa using X) (by simpa using Y) o m
     (λan p=>yH M n a.2.2 a.2.2.length rfl aa a.2.1.1 a.2.1.2 B an ((show fp B w n a.2.2 a.2.1.1 from I.2).below (p.mono g)) (ay g p.size) (λE s ao Z=>by
      have H:=p.trans (Z.mono p.size);obtain⟨k,v⟩:=cO s;rcases I.2 with z|⟨_,_,_,_,z⟩
      ·rw[z]at s;cases s
      ·exact A6 M n (by omega) E B ao ((z k E v).2.below (H.mono g)) (aT n a E J s) (ay g H.size)))
     (lL ah (r e (aG j)) g) (lL ai (r u (aG D)) g) (lL ag (r t (aG C)) g)
   ·have A:rS M (n+1) b d=none:=by rw[h,if_neg (show¬bO ⟨n+1,a⟩=4 from o)]
    exact sV M n _ _ _ _ _ _ b N po c w _ A f (by omega) a.1.1 (by simpa using L) (by simpa using o) m
  ·have h:rS M n b d=none:=by simp[rS,q]
   exact uQ M n _ _ _ _ _ _ b G d.length c w _ h f (ux q) (by simp;omega) m
 replace f:=nY f;have h:rS M n b d=none:=by simp[rS,F,f]
 exact sX M n _ _ _ _ _ _ b G d.length c w _ h f m
abbrev o8(M:Nat)(o:Option (Bh (M+1)))(w:World)(e:Ending)(w':World):Prop:=qm (oW (M+1)) (oU (M+1)) (jC (M+1)) (xD (M+1)) o w e w'
theorem wJ{n:Nat}{x:Tm (n+1)}(b:az ⟨n+1,x⟩):(bJ n x).length<=8:=by
 unfold bJ;split
 ·rename_i a;have:=lW b a;split
  ·split
   ·rw[eH];omega
   ·simp
  ·simp
 ·simp
theorem IX{n:Nat}{a:Tm (n+1)}(d:az ⟨n+1,a⟩)(b:a.1.1=2):a.1.2.2.size<=2048:=by
 have:=d (bA n a) (by simp[aw,bA]);have c:dG a.1.2.2=true:=by
  simp only[cv,bA,b]at this;simp at this;exact this.1.1
 simp only[dG,qd,aA,bU]at c;omega
theorem AC{n B:Nat}{w:World}{q:List (Tm n)}{a:Option Addr}(b:fp B w n q a){y:Tm n}(c:y∈q):In B w n y:=by
 rcases b with b|⟨_,_,_,_,b⟩
 ·subst b;cases c
 ·obtain⟨e,d⟩:=cO c;exact(b e y d).2
theorem pQ{M:Nat}{o:Option (Bh (M+1))}{w w':World}(b:o=none)(a:aj w w'):o8 M o w (.returned (.tuple #[.agg #[af .empty,ae none 0 0],.bool false])) w':=by
 subst b;exact⟨(.empty,(none,0),[]),false,rfl,a,rfl,⟨aE _,⟨ak _,aE _⟩,ah rfl⟩,ah rfl,λd c=>by cases c⟩
theorem yK(M _n:Nat)(k i:Int)(s:ByteArray)(xa:Option Addr)(l xc:Nat)(j:ByteArray)(a:Option Addr)(len c:Nat)(w:World)(o:Option (Bh (M+1)))(p:Hid (o=none))(t:(j.toList==[98,101,104])=false)(d:Hid (∀w1,aj w w1->am 90 #[.agg #[ab k,ab i,af s,ae xa l xc]] w1 λe w'=>e=.returned (.tuple #[af j,ae a len c])/\aj w1 w')):am 92 #[.agg #[ab k,ab i,af s,ae xa l xc]] w (o8 M o w):=by
 go_enter Tryz.func92,Tryz.ntmps92;go_wp2_with fail;refine(d.out _ (by go_grown)).mono ?_;rintro e w1 ⟨rfl,f⟩;obtain⟨q,h,g,y⟩:=ed f;have m:=ao g;have b:=ao h;clear f q h g d;have n:w1.cell? ⟨w.heap.size+1,0,none⟩=some (af ⟨#[]⟩):=ar b.out 0;have d1:w1.cell? ⟨w.heap.size+1,1,none⟩=some (ae none 0 0):=ar b.out 1;have u:=λr=>cP b.out r;have x:w.heap.size+1<w1.heap.size:=(aD.1 b.out).1;go_wp2_with fail;exact av (v:=.tuple #[.agg #[af .empty,ae none 0 0],.bool false]) (by simp[results,Tryz.results92,go_sem,n,d1];rfl) rfl (pQ p.out ((bE.set (bE.set (bE.refl _ _) _ _) _ _).below m.out (by omega)))
theorem A8(M _n:Nat)(k i:Int)(s:ByteArray)(xa:Option Addr)(l xc:Nat)(j:ByteArray)(a:Option Addr)(len c:Nat)(w:World)(o:Option (Bh (M+1)))(p:Hid (o=none))(t:(j.toList==[98,101,104])=true)(x:(len:Int)<1)(d:Hid (∀w1,aj w w1->am 90 #[.agg #[ab k,ab i,af s,ae xa l xc]] w1 λe w'=>e=.returned (.tuple #[af j,ae a len c])/\aj w1 w')):am 92 #[.agg #[ab k,ab i,af s,ae xa l xc]] w (o8 M o w):=by
 go_enter Tryz.func92,Tryz.ntmps92;go_wp2_with fail;refine(d.out _ (by go_grown)).mono ?_;rintro e w1 ⟨rfl,f⟩;obtain⟨q,h,g,z⟩:=ed f;have m:=ao g;have b:=ao h;clear f q h g d;have n:w1.cell? ⟨w.heap.size+1,0,none⟩=some (af ⟨#[]⟩):=ar b.out 0;have d1:w1.cell? ⟨w.heap.size+1,1,none⟩=some (ae none 0 0):=ar b.out 1;have u:=λr=>cP b.out r;have y:w.heap.size+1<w1.heap.size:=(aD.1 b.out).1;go_wp2_with fail;exact av (v:=.tuple #[.agg #[af .empty,ae none 0 0],.bool false]) (by simp[results,Tryz.results92,go_sem,n,d1];rfl) rfl (pQ p.out ((bE.set (bE.set (bE.refl _ _) _ _) _ _).below m.out (by omega)))
theorem yI(M _n:Nat)(k m:Int)(s:ByteArray)(xa:Option Addr)(p xc:Nat)(n:ByteArray)(b po len c:Nat)(w:World)(o:Option (Bh (M+1)))(r:Hid (o=none))(y:(n.toList==[98,101,104])=true)(B:¬(len:Int)<1)(C:(0:Int)<(len:Int))(t:b<w.heap.size)(l:Int)(g:w.cell? ⟨b,po,none⟩=some (ab l))(A:(l !=2)=true)(f:Hid (∀w1,aj w w1->am 90 #[.agg #[ab k,ab m,af s,ae xa p xc]] w1 λe w'=>e=.returned (.tuple #[af n,ae (some ⟨b,po,none⟩) len c])/\aj w1 w')):am 92 #[.agg #[ab k,ab m,af s,ae xa p xc]] w (o8 M o w):=by
 go_enter Tryz.func92,Tryz.ntmps92;go_wp2_with fail;refine(f.out _ (by go_grown)).mono ?_;rintro e w1 ⟨rfl,h⟩;obtain⟨u,j,i,F⟩:=ed h;have d:=ao i;have a:=ao j;clear h u j i f;replace g:=(aq d.out _ _ t).trans g;have D:b<w1.heap.size:=by omega
 have q:w1.cell? ⟨w.heap.size+1,0,none⟩=some (af ⟨#[]⟩):=ar a.out 0;have d1:w1.cell? ⟨w.heap.size+1,1,none⟩=some (ae none 0 0):=ar a.out 1;have z:=λx=>cP a.out x;have E:w.heap.size+1<w1.heap.size:=(aD.1 a.out).1;go_wp2_with fail;exact av (v:=.tuple #[.agg #[af .empty,ae none 0 0],.bool false]) (by simp[results,Tryz.results92,go_sem,q,d1];rfl) rfl (pQ r.out ((bE.set (bE.set (bE.refl _ _) _ _) _ _).below d.out (by omega)))
theorem A9(M _n:Nat)(k Q:Int)(s:ByteArray)(xa:Option Addr)(S xc:Nat)(R:ByteArray)(d po:Nat)(w:World)(y2:ByteArray)(ag:y2.size<=2048)(t:Option (List (Cl (M+1))))(o:Option (Bh (M+1)))(J:Hid (o=t.map λl=>(y2,(none,0),l)))(ax:(R.toList==[98,101,104])=true)(K:d<w.heap.size)(m:w.cell? ⟨d,po,none⟩=some (ab 2))(n:w.cell? ⟨d,po+2,none⟩=some (af y2))(C:Hid (∀w1,aj w w1->am 90 #[.agg #[ab k,ab Q,af s,ae xa S xc]] w1 λe w'=>e=.returned (.tuple #[af R,ae (some ⟨d,po,none⟩) 1 1])/\aj w1 w'))(y:Hid (∀w1,aj w w1->am 125 #[ae (some ⟨d,po,none⟩) 0 0,.func (Fn.func 126) #[] #[]] w1 (kT 13 (eK (M+1)) (gO (M+1)) (jD (M+1)) (BU (M+1)) t w1))):am 92 #[.agg #[ab k,ab Q,af s,ae xa S xc]] w (o8 M o w):=by
 go_enter Tryz.func92,Tryz.ntmps92;go_wp2_with fail;refine(C.out _ (by go_grown)).mono ?_;rintro e w1 ⟨rfl,F⟩;obtain⟨ad,N,G,aC⟩:=ed F;have f:=ao G;have D:=ao N;clear F ad N G C;replace m:=(aq f.out _ _ K).trans m;replace n:=(aq f.out _ _ K).trans n;have L:d<w1.heap.size:=by omega
 go_wp2_with fail;refine(y.out _ f.out).mono ?_;rintro e x ⟨l,c,i,u,rfl,B⟩;have g:=ao B.out.1;have z:Hid (aj w x):=f.out.trans (g.out.mono f.out.size);have E:=ao ((g.out.block (w.heap.size+1) (by omega)).trans D.out);have az:w1.heap.size<=x.heap.size:=g.out.size;have aA:d<x.heap.size:=by omega
 replace m:=(aq g.out _ _ L).trans m;replace n:=(aq g.out _ _ L).trans n;obtain⟨j,r⟩:∃j,l.length=j:=⟨_,rfl⟩;rw[r];have U:=ao r;clear y D r;go_wp2_with fail;refine(dH _ _ ag).mono ?_;rintro e a ⟨rfl,p⟩;have A:=ao p;have T:Hid (aj w a):=z.out.trans (p.mono z.out.size);have h:=ao ((p.block (w.heap.size+1) (by omega)).trans E.out);have V:a.cell? ⟨w.heap.size+1,0,none⟩=some (af ⟨#[]⟩):=ar h.out 0;have d1:a.cell? ⟨w.heap.size+1,1,none⟩=some (ae none 0 0):=ar h.out 1;have ay:=λah=>cP h.out ah;have aB:w.heap.size+1<a.heap.size:=(aD.1 h.out).1;clear p E h;go_wp2_with fail;refine av (v:=.tuple #[.agg #[af y2,ae c j i],.bool u]) (by simp[results,Tryz.results92,go_sem,V,d1]) rfl ?_;have au:∀w',bE (w.heap.size+1) a w'->o8 M o w (.returned (.tuple #[.agg #[af y2,ae c j i],.bool u])) w':=λw' I=>by
  obtain⟨aE,ai,ak,al,an,ap⟩:=B.out;have q:=cB (dX (M+1)) 13 (eK (M+1)) c;have Y:px a.heap.size a 13 (eK (M+1)) (gO (M+1) a.heap.size a) c l:=q.mono A.out.size (q.below A.out al);have aa:sP (jD (M+1) (λb=>w.heap.size+1<b)) (λb=>w.heap.size+1<b) c l:=q.1 _ _ _ (λb (W:w1.heap.size<=b)=>(show w.heap.size+1<b by omega)) an;have X:oU (M+1) a.heap.size a (y2,(c,i),l):=⟨(show y2.size<=maxLen by unfold maxLen;omega),ak,Y⟩;have H:jC (M+1) (λb=>w.heap.size+1<b) (y2,(c,i),l):=aa;refine⟨(y2,(c,i),l),u,by rw[<-U.out];rfl,I.below T.out (by omega),?_,I.stays (dN _) (P:=λb=>w.heap.size+1<b) (by omega) H X,(dN _).1 _ _ _ (λb (W:w.heap.size+1<b)=>(show w.heap.size<=b by omega)) H,λaF O=>?_⟩
  ·rw[ai,J.out];cases t<;>rfl
  ·rw[J.out]at O;obtain⟨aw,Z,rfl⟩:=cd.1 O;exact⟨rfl,ap aw Z⟩
 exact au _ (bE.set (bE.set (bE.refl _ _) _ _) _ _)
theorem yJ(M _n:Nat)(k T:Int)(s:ByteArray)(xa:Option Addr)(V xc:Nat)(U:ByteArray)(f po L c:Nat)(w:World)(y2:ByteArray)(ai:y2.size<=2048)(u:Option (List (Cl (M+1))))(o:Option (Bh (M+1)))(N:Hid (o=u.map λl=>(y2,(none,0),l)))(az:(U.toList==[98,101,104])=true)(O:f<w.heap.size)(_hl:¬(L:Int)<1)(K:(0:Int)<(L:Int))(aE:(1:Int)<=(L:Int))(_hlc:(L:Int)<=(c:Int))(aC:¬c=1)(_hcm:(c:Int)<=9223372036854775807)(n:w.cell? ⟨f,po,none⟩=some (ab 2))(p:w.cell? ⟨f,po+2,none⟩=some (af y2))(D:Hid (∀w1,aj w w1->am 90 #[.agg #[ab k,ab T,af s,ae xa V xc]] w1 λe w'=>e=.returned (.tuple #[af U,ae (some ⟨f,po,none⟩) L c])/\aj w1 w'))(z:Hid (∀w1,aj w w1->am 125 #[ae (some ⟨f,po+4,none⟩) (L-1) (c-1),.func (Fn.func 126) #[] #[]] w1 (kT 13 (eK (M+1)) (gO (M+1)) (jD (M+1)) (BU (M+1)) u w1))):am 92 #[.agg #[ab k,ab T,af s,ae xa V xc]] w (o8 M o w):=by
 go_enter Tryz.func92,Tryz.ntmps92;go_wp2_with fail;refine(D.out _ (by go_grown)).mono ?_;rintro e w1 ⟨rfl,G⟩;obtain⟨ah,R,H,aH⟩:=ed G;have g:=ao H;have E:=ao R;clear G ah R H D;replace n:=(aq g.out _ _ O).trans n;replace p:=(aq g.out _ _ O).trans p;have Q:f<w1.heap.size:=by omega
 go_wp2_with fail;refine(z.out _ g.out).mono ?_;rintro e y ⟨l,d,j,x,rfl,C⟩;have h:=ao C.out.1;have A:Hid (aj w y):=g.out.trans (h.out.mono g.out.size);have F:=ao ((h.out.block (w.heap.size+1) (by omega)).trans E.out);have aB:w1.heap.size<=y.heap.size:=h.out.size;have aF:f<y.heap.size:=by omega
 replace n:=(aq h.out _ _ Q).trans n;replace p:=(aq h.out _ _ Q).trans p;obtain⟨m,t⟩:∃m,l.length=m:=⟨_,rfl⟩;rw[t];have X:=ao t;clear z E t;go_wp2_with fail;refine(dH _ _ ai).mono ?_;rintro e a ⟨rfl,q⟩;have B:=ao q;have W:Hid (aj w a):=A.out.trans (q.mono A.out.size);have i:=ao ((q.block (w.heap.size+1) (by omega)).trans F.out);have Y:a.cell? ⟨w.heap.size+1,0,none⟩=some (af ⟨#[]⟩):=ar i.out 0;have d1:a.cell? ⟨w.heap.size+1,1,none⟩=some (ae none 0 0):=ar i.out 1;have aA:=λak=>cP i.out ak;have aG:w.heap.size+1<a.heap.size:=(aD.1 i.out).1;clear q F i;go_wp2_with fail;refine av (v:=.tuple #[.agg #[af y2,ae d m j],.bool x]) (by simp[results,Tryz.results92,go_sem,Y,d1]) rfl ?_;have ax:∀w',bE (w.heap.size+1) a w'->o8 M o w (.returned (.tuple #[.agg #[af y2,ae d m j],.bool x])) w':=λw' J=>by
  obtain⟨aI,al,an,ap,au,aw⟩:=C.out;have r:=cB (dX (M+1)) 13 (eK (M+1)) d;have ad:px a.heap.size a 13 (eK (M+1)) (gO (M+1) a.heap.size a) d l:=r.mono B.out.size (r.below B.out ap);have ag:sP (jD (M+1) (λb=>w.heap.size+1<b)) (λb=>w.heap.size+1<b) d l:=r.1 _ _ _ (λb (Z:w1.heap.size<=b)=>(show w.heap.size+1<b by omega)) au;have aa:oU (M+1) a.heap.size a (y2,(d,j),l):=⟨(show y2.size<=maxLen by unfold maxLen;omega),an,ad⟩;have I:jC (M+1) (λb=>w.heap.size+1<b) (y2,(d,j),l):=ag;refine⟨(y2,(d,j),l),x,by rw[<-X.out];rfl,J.below W.out (by omega),?_,J.stays (dN _) (P:=λb=>w.heap.size+1<b) (by omega) I aa,(dN _).1 _ _ _ (λb (Z:w.heap.size+1<b)=>(show w.heap.size<=b by omega)) I,λaJ S=>?_⟩
  ·rw[al,N.out];cases u<;>rfl
  ·rw[N.out]at S;obtain⟨ay,K,rfl⟩:=cd.1 S;exact⟨rfl,aw ay K⟩
 exact ax _ (bE.set (bE.set (bE.refl _ _) _ _) _ _)
theorem A7(M n:Nat)(Z:n<=M+1)(x:Tm n)(B:Nat)(w:World)(K:In B w n x)(H:az ⟨n,x⟩)(p:B<=w.heap.size):am 92 #[dj n x] w (o8 M (yA M n x) w):=by
 cases n with
 | zero=>exact K.elim
 | succ n=>
 obtain⟨D,c,h,S,Y,k⟩:=qM n x B w K p;show am 92 #[.agg #[ab x.1.1,ab x.1.2.1,af x.1.2.2,ae x.2.1.1 x.2.2.length x.2.1.2]] w (o8 M (sU M n (eL n x) (bJ n x)) w);have I:∀d∈bJ n x,az ⟨n,d⟩:=λd U=>dZ H U;have R:(bJ n x).length<=8:=wJ H;generalize eL n x=e at*;generalize bJ n x=a at*;have A:sr e te=(e.toList==[98,101,104]):=mO e [98,101,104];by_cases f:(e.toList==[98,101,104])=true
 ·cases a with
  | nil=>
   have g:sU M n e []=none:=by simp[sU]
   exact A8 M n _ _ _ _ _ _ e D 0 c w _ g f (by omega) k
  | cons d a=>
   obtain⟨q,po,rfl⟩:=qE h (by simp);cases n with
   | zero=>exact(rm h (show (d::a)[0]?=some d from rfl)).elim
   | succ n=>
   obtain⟨⟨m,W,E,X⟩,ad,aa⟩:=gZ h (show (d::a)[0]?=some d from rfl);by_cases i:d.1.1=2
   ·have g:sU M (n+1) e (d::a)=(cE (yB M (n+1)) a).map λl=>(d.1.2.2,(none,0),l):=by
      simp[sU,A,f,bO,i,wm,gd,bA]
    have J:d.1.2.2.size<=2048:=IX (I d (by simp)) i;have G:fp B w (n+1) a (some ⟨q,po+4,none⟩):=by
     rcases h with h|⟨b,o,v,t,h⟩
     ·cases h
     ·injection v with v;injection v with O P;subst O P
      exact ai ⟨q,po+4,rfl,t,λz j y=>by
       have:=h (z+1) j (by simpa using y);rw[show po+4+z*4=po+(z+1)*4 by omega]
       exact this⟩
    have C:∀(j:Option Addr)(u:Nat),fp B w (n+1) a j->∀r,aj w r->am 125 #[ae j a.length u,.func (Fn.func 126) #[] #[]] r (kT 13 (eK (M+1)) (gO (M+1)) (jD (M+1)) (BU (M+1)) (cE (yB M (n+1)) a) r):=λj u y r s=>
     sY M (n+1) a a.length rfl (by simp at R;omega) j u B r (y.below (s.mono p)) (ay p s.size) (λN L V Q=>by
      have t:=s.trans (Q.mono s.size)
      exact uP M (n+1) (by omega) N B V ((AC G L).below (t.mono p)) (I N (by simp[L])) (ay p t.size))
    by_cases F:c=1
    ·have T:a=[]:=bH (by simp at S;omega);subst T F;exact A9 M (n+1) _ _ _ _ _ _ e q po w d.1.2.2 J _ _ g f (by omega) (by rw[i]at m;simpa using m) (by simpa using E) k (C _ 0 (ah rfl))
    ·exact yJ M (n+1) _ _ _ _ _ _ e q po (d::a).length c w d.1.2.2 J _ _ g f (by omega) (by simp only[aZ];omega) (by simp only[aZ];omega) (by simp only[aZ];omega) (by omega) F (by omega) (by rw[i]at m;simpa using m) (by simpa using E) k (C _ (c-1) G)
   ·have g:sU M (n+1) e (d::a)=none:=by simp[sU,bO,i]
    exact yI M (n+1) _ _ _ _ _ _ e q po (d::a).length c w _ g f (by simp only[aZ];omega) (by simp only[aZ];omega) (by omega) d.1.1 (by simpa using m) (by simpa using i) k
 replace f:=nY f;have g:sU M n e a=none:=by simp[sU,A,f]
 exact yK M n _ _ _ _ _ _ e D a.length c w _ g f k
abbrev tE(M:Nat)(o:Option (List (Bh (M+1))))(w:World)(e:Ending)(w':World):Prop:=kT 2 (oW (M+1)) (oU (M+1)) (jC (M+1)) (xD (M+1)) o w e w'
theorem A4{M:Nat}{o:Option (List (Bh (M+1)))}{w w':World}(b:o=none)(a:aj w w'):tE M o w (.returned (.tuple #[ae none 0 0,.bool false])) w':=by
 subst b;exact⟨[],none,0,false,rfl,a,rfl,⟨ak _,aE _⟩,ah rfl,ah rfl,λd c=>by cases c⟩
theorem vC(M _n:Nat)(k r:Int)(s:ByteArray)(xa:Option Addr)(u xc:Nat)(t:ByteArray)(a:Option Addr)(len c:Nat)(w:World)(o:Option (List (Bh (M+1))))(b:Bool)(H:(t.toList==[99,111,100,101])=b)(p:Hid (b=false->o=none))(m:Hid (∀w1,aj w w1->am 90 #[.agg #[ab k,ab r,af s,ae xa u xc]] w1 λe w'=>e=.returned (.tuple #[af t,ae a len c])/\aj w1 w'))(j:Hid (b=true->∀w1,aj w w1->am 91 #[ae a len c,.func (Fn.func 92) #[] #[]] w1 (tE M o w1))):am 60 #[.agg #[ab k,ab r,af s,ae xa u xc]] w (tE M o w):=by
 cases b
 ·have HB:Hid (o=none):=p.out rfl;go_enter Tryz.func60,Tryz.ntmps60;go_wp2_with fail;refine(m.out _ (by go_grown)).mono ?_;rintro e w1 ⟨rfl,f⟩;have d:Hid (aj w w1):=aM.trans (f.mono (by simp));clear f;go_wp2_with fail;exact av (v:=.tuple #[ae none 0 0,.bool false]) (by simp[results,Tryz.results60,go_sem]) rfl (A4 HB.out d.out)
 ·have x:=ao (j.out rfl);clear j p;go_enter Tryz.func60,Tryz.ntmps60;go_wp2_with fail;refine(m.out _ (by go_grown)).mono ?_;rintro e w1 ⟨rfl,f⟩;have d:Hid (aj w w1):=aM.trans (f.mono (by simp));clear f;go_wp2_with fail;refine(x.out _ d.out).mono ?_;rintro e I ⟨l,h,n,q,rfl,y⟩;obtain⟨g,i⟩:∃g,l.length=g:=⟨_,rfl⟩;rw[i];have z:=ao i;clear i;go_wp2_with fail;refine av (v:=.tuple #[ae h g n,.bool q]) (by simp[results,Tryz.results60,go_sem]) rfl ?_;obtain⟨B,C,D,E,F,G⟩:=y.out;exact⟨l,h,n,q,by rw[z.out],d.out.trans (B.mono d.out.size),C,D,E,(cB (dN _) 2 (oW (M+1)) h).1 _ _ _ (λb A=>ay d.out.size A) F,G⟩
theorem yM(M n:Nat)(A:n<=M+1)(x:Tm n)(B:Nat)(w:World)(j:In B w n x)(i:az ⟨n,x⟩)(a:B<=w.heap.size):am 60 #[dj n x] w (tE M (A2 M n x) w):=by
 cases n with
 | zero=>exact j.elim
 | succ n=>
 obtain⟨f,c,h,z,y,o⟩:=qM n x B w j a;have s:∀l∈bJ n x,az ⟨n,l⟩:=λl t=>dZ i t;have r:(bJ n x).length<=8:=wJ i;have e:sr (eL n x) nn=((eL n x).toList==[99,111,100,101]):=mO _ [99,111,100,101];refine vC M n _ _ _ _ _ _ (eL n x) f (bJ n x).length c w (A2 M (n+1) x) _ rfl (λd=>?_) o (λd u b=>?_)
 ·simp only[A2,e,d];rfl
 ·have p:A2 M (n+1) x=cE (yA M n) (bJ n x):=by simp only[A2,e,d];rfl
  rw[p]
  exact pR M n (bJ n x) (bJ n x).length rfl r f c B u (h.below (b.mono a)) (ay a b.size) (λm k v q=>by
   have g:=b.trans (q.mono b.size)
   exact A7 M n (by omega) m B v ((AC h k).below (g.mono a)) (s m k) (ay a g.size))
theorem Ab{s:ByteArray}(b:s.toList.isEmpty=true):s=.empty:=by
 apply tM;have a:ByteArray.empty.toList=[]:=by rw[b8];rfl
 rw[a];simpa using b
theorem wP{n:Nat}{x:Tm (n+1)}(f:az ⟨n+1,x⟩)(c:x.1.1=4):x.1=(4,0,.empty):=by
 have a:=f (bA n x) (by simp[aw,bA]);unfold cv at a;have b:(bA n x).1.1=4:=c;rw[if_neg (by rw[b];omega),if_neg (by rw[b];omega),if_neg (by rw[b];omega),if_pos b]at a;simp only[aA,cm]at a;have d:x.1.2.2=.empty:=Ab a.1.1.1;have e:x.1.2.1=0:=a.1.1.2;exact ig c (ig e d)
theorem pS{n:Nat}{x:Tm (n+1)}(g:az ⟨n+1,x⟩)(d:x.1.1=2):x.1=(2,0,x.1.2.2)/\x.2.2=[]/\dG x.1.2.2=true:=by
 have b:=g (bA n x) (by simp[aw,bA]);unfold cv at b;have c:(bA n x).1.1=2:=d;rw[if_neg (by rw[c];omega),if_pos c]at b;simp only[aA,ic,cm]at b;obtain⟨⟨f,e⟩,a⟩:=b;refine⟨ig d (ig e rfl),?_,f⟩;rcases a with a|a
 ·rw[c]at a;omega
 ·have h:¬(0:Int)<(x.2.2.length:Int):=by simpa [bA]using a
  exact bH (by omega)
theorem wQ{n:Nat}{x:Tm (n+1)}(g:az ⟨n+1,x⟩)(d:x.1.1=5):x.1=(5,x.1.2.1,.empty)/\x.2.2=[]/\0<=x.1.2.1/\x.1.2.1<=3:=by
 have c:=g (bA n x) (by simp[aw,bA]);unfold cv at c;have a:(bA n x).1.1=5:=d;rw[if_neg (by rw[a];omega),if_neg (by rw[a];omega),if_neg (by rw[a];omega),if_neg (by rw[a];omega),if_pos a]at c;simp only[aA,ic,cm,qd,bU]at c;obtain⟨⟨f,e⟩,b⟩:=c;refine⟨ig d (ig rfl (Ab f)),?_,e⟩;rcases b with b|b
 ·rw[a]at b;omega
 ·have h:¬(0:Int)<(x.2.2.length:Int):=by simpa [bA]using b
  exact bH (by omega)
theorem rz{n:Nat}{x:Tm (n+1)}(d:az ⟨n+1,x⟩)(b:x.1.1=2)(N:Nat):ax (N+1) (aY x.1.2.2 N) (n+1) x=true:=by
 obtain⟨a,c,_⟩:=pS d b;refine da a.symm ?_;rw[c];rfl
theorem JW{n:Nat}{x:Tm (n+1)}(d:az ⟨n+1,x⟩)(c:x.1.1=5)(N:Nat):ax (N+1) (bK 5 x.1.2.1 N) (n+1) x=true:=by
 obtain⟨a,b,_⟩:=wQ d c;refine da a.symm ?_;rw[b];rfl
theorem gC{n:Nat}{x:Tm (n+1)}(j:az ⟨n+1,x⟩){f:ByteArray}(o:sr (eL n x) f=true)(b:f.toList≠[]):x.1=(4,0,.empty)/\∃i,x.2.2=i::bJ n x/\∀N,ax (N+1) (aY f N) n i=true:=by
 have g:ByteArray.empty.toList=[]:=by rw[b8];rfl
 have a:eL n x=f:=tM o;unfold eL at a;by_cases e:x.1.1=4
 ·rw[if_pos e]at a;refine⟨wP j e,?_⟩;obtain⟨⟨k,r,q⟩,⟨p,c⟩,l⟩:=x;simp only at e a;subst e;cases l with
  | nil=>
   simp at a;rw[<-a,g]at b;exact(b rfl).elim
  | cons d l=>
   simp only[cN]at a;cases n with
   | zero=>
    simp[bO]at a;rw[<-a,g]at b;exact(b rfl).elim
   | succ n=>
    by_cases h:d.1.1=2
    ·refine⟨d,by simp[bJ,bO,h],λN=>?_⟩;have m:f=d.1.2.2:=by
      rw[if_pos (show bO ⟨n+1,d⟩=2 from h)]at a;exact a.symm
     rw[m];exact rz (aT (n+1) _ d j (by simp)) h N
    ·rw[if_neg (show¬bO ⟨n+1,d⟩=2 from h)]at a;rw[<-a,g]at b;exact(b rfl).elim
 ·rw[if_neg e]at a;rw[<-a,g]at b;exact(b rfl).elim
theorem mZ(l:List UInt8)(a:l≠[]):(⟨l.toArray⟩:ByteArray).toList≠[]:=by rw[jS];exact a
theorem lU{M n:Nat}(a:n<=M+1){y:Tm n}(b:az ⟨n,y⟩):ax (M+1) (aO (M+1) n y) n y=true:=lQ (M+1) n a y (fe n y b)
theorem IS{b:Type}{l:List b}{a:b}(c:l.length=1)(d:l[0]?=some a):l=[a]:=by
 match l,c with
 | [x],_=>simpa using d
theorem IT{e:Type}{l:List e}{a b:e}(f:l.length=2)(c:l[0]?=some a)(d:l[1]?=some b):l=[a,b]:=by
 match l,f with
 | [x,y],_=>
  simp at c d;rw[c,d]
theorem CJ{g:Type}{l:List g}{a b c:g}(h:l.length=3)(d:l[0]?=some a)(e:l[1]?=some b)(f:l[2]?=some c):l=[a,b,c]:=by
 match l,h with
 | [x,y,z],_=>
  simp at d e f;rw[d,e,f]
theorem FH{i:Type}{l:List i}{a b c d:i}(j:l.length=4)(e:l[0]?=some a)(f:l[1]?=some b)(g:l[2]?=some c)(h:l[3]?=some d):l=[a,b,c,d]:=by
 match l,j with
 | [x,y,z,t],_=>
  simp at e f g h;rw[e,f,g,h]
theorem Ji(M:Nat):(n:Nat)->n<=M+1->(x:Tm n)->az ⟨n,x⟩->(a:Ac (M+1))->rR M n x=some a->ax (M+2) (bY M a) n x=true/\nr (M+1) a=true
 | 0,_,_,hr,_,_=>(dd hr).elim
 | n+1,hn,x,hr,a,h=>by
  have e:∀y∈bJ n x,az ⟨n,y⟩:=λy E=>dZ hr E;have w:eD (M+1) (zT M)=true:=by
   have t:ByteArray.empty.toList=[]:=by rw[b8];rfl
   simp[eD,gd,bA,zT,t]
  have u:vA .empty 0=true:=by
   have t:ByteArray.empty.toList=[]:=by rw[b8];rfl
   simp[vA,t]
  have get:∀(d:List (Tm n))(s:Nat),s<d.length->∃y,d[s]?=some y/\y∈d:=λd s z=>⟨d[s],aH z,jl z⟩;simp only[rR,jy]at h;split at h
  ·rename_i b;simp only[aA,bU]at b;obtain⟨k,j,l,m⟩:=gC hr b.1 (mZ [115,101,110,100] (by simp));obtain⟨c,f,p⟩:=get _ 0 (by rw[b.2];omega);obtain⟨d,q,v⟩:=get _ 1 (by rw[b.2];omega);rw[f,q]at h;have i:a=(1,(aO (M+1) n c,aO (M+1) n d),(.empty,0)):=by simpa using h.symm
   have o:bJ n x=[c,d]:=IT b.2 f q;subst i;refine⟨da k.symm ?_,u⟩;rw[l,o];show aC _ [aY l9 M,aO (M+1) n c,aO (M+1) n d] [j,c,d]=true;simp only[aC,m M,lU (M:=M) (by omega) (e c p),lU (M:=M) (by omega) (e d v),ib]
  split at h
  ·rename_i b;simp only[aA,bU]at b;obtain⟨k,j,l,m⟩:=gC hr b.1 (mZ [115,112,97,119,110] (by simp));obtain⟨c,f,p⟩:=get _ 0 (by rw[b.2];omega);obtain⟨d,q,v⟩:=get _ 1 (by rw[b.2];omega);obtain⟨g,B,A⟩:=get _ 2 (by rw[b.2];omega);rw[f,q,B]at h;simp only[dh,yC]at h;split at h
   ·rename_i r;have i:a=(2,(zT M,aO (M+1) n d),(wm n c,oX n g)):=by simpa using h.symm
    have o:bJ n x=[c,d,g]:=CJ b.2 f q B;subst i;cases n with
    | zero=>exact(dd (e c p)).elim
    | succ n=>
    have D:=wQ (e g A) r.2;have C:=pS (e c p) r.1;refine⟨da k.symm ?_,?_⟩
    ·rw[l,o];show aC _ [aY iJ M,aY c.1.2.2 M,aO (M+1) (n+1) d,bK 5 g.1.2.1 M] [j,c,d,g]=true;simp only[aC,m M,lU (M:=M) (by omega) (e d v),rz (e c p) r.1 M,JW (e g A) r.2 M,ib]
    ·show (eD (M+1) (zT M) && dG c.1.2.2 && decide (0<=g.1.2.1) && decide (g.1.2.1<4))=true;rw[w,C.2.2,gN D.2.2.1,gN (by omega)];rfl
   ·cases h
  split at h
  ·rename_i b;simp only[aA,bU]at b;obtain⟨k,j,l,m⟩:=gC hr b.1 (mZ [108,105,110,107] (by simp));obtain⟨c,f,p⟩:=get _ 0 (by rw[b.2];omega);rw[f]at h;have i:a=(3,(aO (M+1) n c,zT M),(.empty,0)):=by simpa using h.symm
   have o:bJ n x=[c]:=IS b.2 f;subst i;refine⟨da k.symm ?_,?_⟩
   ·rw[l,o];show aC _ [aY l7 M,aO (M+1) n c] [j,c]=true;simp only[aC,m M,lU (M:=M) (by omega) (e c p),ib]
   ·show (eD (M+1) (zT M) && vA .empty 0)=true;rw[w,u];rfl
  split at h
  ·rename_i b;simp only[aA,bU]at b;obtain⟨k,j,l,m⟩:=gC hr b.1 (mZ [115,116,111,112] (by simp));have i:a=(4,(zT M,zT M),(.empty,0)):=by simpa using h.symm
   have o:bJ n x=[]:=bH b.2;subst i;refine⟨da k.symm ?_,?_⟩
   ·rw[l,o];show aC _ [aY lk M] [j]=true;simp only[aC,m M,ib]
   ·show (eD (M+1) (zT M) && eD (M+1) (zT M) && vA .empty 0)=true;rw[w,u];rfl
  ·cases h
theorem o9{b:Type}{f g:b->Bool}:{l:List b}->(∀x∈l,f x=g x)->l.all f=l.all g
 | [],_=>rfl
 | a::l,h=>by
  simp only[iO,h a (by simp),o9 (l:=l) λx c=>h x (by simp[c])]
theorem nV{d:Type}{n N:Nat}{f:Tm n->Option d}{g:d->Tm N}{B:d->Bool}(e:∀x a,az ⟨n,x⟩->f x=some a->ax N (g a) n x=true/\B a=true):(p:List (Tm n))->(∀y∈p,az ⟨n,y⟩)->(l:List d)->cE f p=some l->aC (λa b=>ax N a n b) (l.map g) p=true/\l.all B=true/\l.length=p.length
 | [],_,l,c=>by
  simp[cE]at c;subst c;exact⟨rfl,rfl,rfl⟩
 | y::p,hr,l,c=>by
  simp only[cE]at c;obtain⟨a,k,c⟩:=br.1 c;obtain⟨r,m,rfl⟩:=cd.1 c;obtain⟨h,i,j⟩:=nV e p (λt o=>hr t (by simp[o])) r m;obtain⟨q,s⟩:=e y a (hr y (by simp)) k;refine⟨?_,by simp[s,i],by simp[j]⟩;simp only[aK,aC,q,h,ib]
theorem pK{N M n:Nat}(c:n<=M+1)(b:M+1<=N){y:Tm n}(d:az ⟨n,y⟩):ax N (aO N (M+1) (aO (M+1) n y)) n y=true:=by
 have a:=lU c d;exact bQ _ _ _ _ _ _ (lQ N (M+1) b _ (wU a)) a
theorem Jk(M:Nat):(n:Nat)->n<=M+1->(x:Tm n)->az ⟨n,x⟩->(c:Cl (M+1))->yB M n x=some c->ax (M+4) (dw M c) n x=true/\sQ (M+1) c=true
 | 0,_,_,hr,_,_=>(dd hr).elim
 | n+1,hn,x,hr,c,h=>by
  have d:∀y∈bJ n x,az ⟨n,y⟩:=λy e=>dZ hr e;have get:∀(q:List (Tm n))(i:Nat),i<q.length->∃y,q[i]?=some y/\y∈q:=λq i j=>⟨q[i],aH j,jl j⟩;simp only[yB,rS]at h;split at h
  ·rename_i b;simp only[aA,bU]at b;obtain⟨z,w,A,C⟩:=gC hr b.1 (mZ [111,110] (by simp));obtain⟨p,k,m⟩:=get _ 0 (by rw[b.2];omega);obtain⟨q,o,I⟩:=get _ 1 (by rw[b.2];omega);obtain⟨r,u,f⟩:=get _ 2 (by rw[b.2];omega);obtain⟨t,v,J⟩:=get _ 3 (by rw[b.2];omega);rw[k,o,u,v]at h;simp only[dh]at h;split at h
   ·rename_i F;obtain⟨l,G,rfl⟩:=cd.1 h;have H:bJ n x=[p,q,r,t]:=FH b.2 k o u v;cases n with
    | zero=>exact(dd (d p m)).elim
    | succ n=>
    have s:r.1.1=4:=F;obtain⟨K,L,P⟩:=nV (g:=bY M) (B:=nr (M+1)) (λy a e E=>Ji M n (by omega) y e a E) r.2.2 (λy e=>aT n r y (d r f) e) l G;have O:=lW (d r f) s;refine⟨da z.symm ?_,?_⟩
    ·rw[A,H];show aC _ [aY Ki (M+2),aO (M+3) (M+1) (aO (M+1) (n+1) p),aO (M+3) (M+1) (aO (M+1) (n+1) q),cX (M+2) (l.map (bY M)),aO (M+3) (M+1) (aO (M+1) (n+1) t)] [w,p,q,r,t]=true;have D:ax (M+3) (cX (M+2) (l.map (bY M))) (n+1) r=true:=da (wP (d r f) s).symm K;simp only[aC,C (M+2),pK (N:=M+3) (M:=M) (by omega) (by omega) (d p m),pK (N:=M+3) (M:=M) (by omega) (by omega) (d q I),pK (N:=M+3) (M:=M) (by omega) (by omega) (d t J),D,ib]
    ·show (decide ((l.length:Int)<=8) && l.all (nr (M+1)))=true;rw[L,gN (by omega)];rfl
   ·cases h
  ·cases h
theorem Jj(M:Nat):(n:Nat)->n<=M+1->(x:Tm n)->az ⟨n,x⟩->(b:Bh (M+1))->yA M n x=some b->ax (M+5) (dF M b) n x=true/\(dG b.1 && decide ((b.2.2.length:Int)<=6) && b.2.2.all (sQ (M+1)))=true
 | 0,_,_,hr,_,_=>(dd hr).elim
 | n+1,hn,x,hr,b,a=>by
  have e:∀y∈bJ n x,az ⟨n,y⟩:=λy d=>dZ hr d;simp only[yA,sU]at a;split at a
  ·rename_i u;obtain⟨h,r,i,s⟩:=gC hr u (mZ [98,101,104] (by simp));obtain⟨p,m,a⟩:=br.1 a;split at a
   ·rename_i k;obtain⟨l,v,rfl⟩:=cd.1 a;have z:x.1.1=4:=by rw[h]
    have j:=lW hr z;generalize bJ n x=f at*;cases f with
    | nil=>simp at m
    | cons c f=>
    have q:c=p:=by simpa using m
    subst q;cases n with
    | zero=>exact(dd (e c (by simp))).elim
    | succ n=>
    have w:=pS (e c (by simp)) k;obtain⟨A,C,D⟩:=nV (g:=dw M) (B:=sQ (M+1)) (λy o d t=>Jk M (n+1) (by omega) y d o t) f (λy d=>e y (by simp[d])) l v;rw[i]at j;simp only[aZ]at j;refine⟨da h.symm ?_,?_⟩
    ·rw[i];show aC _ (aY te (M+3)::aY c.1.2.2 (M+3)::l.map (dw M)) (r::c::f)=true;simp only[aC,s (M+3),rz (e c (by simp)) k (M+3),A,ib]
    ·show (dG c.1.2.2 && decide ((l.length:Int)<=6) && l.all (sQ (M+1)))=true;rw[w.2.2,C,gN (by omega)];rfl
   ·cases a
  ·cases a
theorem A3(M:Nat):(n:Nat)->n<=M+1->(x:Tm n)->az ⟨n,x⟩->(l:List (Bh (M+1)))->A2 M n x=some l->ax (M+6) (bW M l) n x=true/\jY (M+1) l=(decide (1<=(l.length:Int)) && l.all λb=>decide (1<=(b.2.2.length:Int)))
 | 0,_,_,hr,_,_=>(dd hr).elim
 | n+1,hn,x,hr,l,h=>by
  have r:∀y∈bJ n x,az ⟨n,y⟩:=λy c=>dZ hr c;simp only[A2]at h;split at h
  ·rename_i a;obtain⟨d,o,e,p⟩:=gC hr a (mZ [99,111,100,101] (by simp));have s:x.1.1=4:=by rw[d]
   have f:=lW hr s;obtain⟨t,i,u⟩:=nV (g:=dF M) (B:=λb=>dG b.1 && decide ((b.2.2.length:Int)<=6) && b.2.2.all (sQ (M+1))) (λy j c q=>Jj M n (by omega) y c j q) (bJ n x) r l h;rw[e]at f;simp only[aZ]at f;refine⟨da d.symm ?_,?_⟩
   ·rw[e];show aC _ (aY nn (M+4)::l.map (dF M)) (o::bJ n x)=true;simp only[aC,p (M+4),t,ib]
   ·have k:decide ((l.length:Int)<=7)=true:=gN (by omega);have m:l.all (vv (M+1))=l.all λb=>decide (1<=(b.2.2.length:Int)):=by
     rw[b9]at i;refine o9 λb a=>?_;have:=i b a;simp only[aA]at this;simp only[vv,this.1.1,this.1.2,this.2,eg,Bool.and_true]
    simp only[jY,k,m,Bool.and_true]
  ·cases h
end Go.Proofs.YtckamaoibonjcaaGreat
