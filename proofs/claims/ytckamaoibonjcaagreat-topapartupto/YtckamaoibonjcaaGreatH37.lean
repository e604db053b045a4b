/- What is proved here: plain facts and contracts that the claimed theorem stands on. No condition but those that each names. -/
import Derived.Test.YtckamaoibonjcaaGreatH36
namespace Go.Proofs.YtckamaoibonjcaaGreat
open Go.RowKit
set_option maxHeartbeats 2000000
set_option maxRecDepth 100000
abbrev iQ(M:Nat)(o:Option (Cl (M+1)))(w:World)(e:Ending)(w':World):Prop:=qe (eO (M+1)) (gL (M+1)) (ju (M+1)) (BO (M+1)) o w e w'
def OP(M:Nat):Cl (M+1):=((zT M,zT M,zT M),(none,0),[])
theorem lk{M:Nat}{o:Option (Cl (M+1))}{w w':World}(b:o=none)(a:ai w w'):iQ M o w (.returned (.tuple #[.agg #[ab 0,ab 0,ae .empty,.slice none 0 0,ab 0,ab 0,ae .empty,.slice none 0 0,.slice none 0 0,ab 0,ab 0,ae .empty,.slice none 0 0],.bool false])) w':=by
 subst b;exact⟨OP M,false,rfl,a,rfl,⟨⟨kI _ _ _,kI _ _ _,kI _ _ _⟩,⟨aj _,aF _⟩,ag rfl⟩,⟨⟨ag rfl,ag rfl,ag rfl⟩,ag rfl⟩,λd c=>by cases c⟩
theorem lP{n:Nat}{m:Tm (n+1)}(c:aA ⟨n+1,m⟩)(d:m.1.1=4):m.2.2.length<=8:=by
 have b:=c (bu n m) (by simp[av,bu]);unfold cq at b;have a:(bu n m).1.1=4:=d;rw[if_neg (by rw[a];omega),if_neg (by rw[a];omega),if_neg (by rw[a];omega),if_pos a]at b;simp only[aB,bX]at b;have e:(m.2.2.length:Int)<=8:=b.1.2;omega
theorem th{w:World}{q:Nat}{c0 b f g h i k l m n c d e:Value}{t:TypeId}(a:w.heap[q]?=some (.cells #[c0,b,f,g,h,i,k,l,m,n,c,d,e] t)):(w.cell? ⟨q,0,none⟩=some c0/\w.cell? ⟨q,1,none⟩=some b/\w.cell? ⟨q,2,none⟩=some f/\w.cell? ⟨q,3,none⟩=some g/\w.cell? ⟨q,4,none⟩=some h/\w.cell? ⟨q,5,none⟩=some i/\w.cell? ⟨q,6,none⟩=some k/\w.cell? ⟨q,7,none⟩=some l/\w.cell? ⟨q,8,none⟩=some m/\w.cell? ⟨q,9,none⟩=some n/\w.cell? ⟨q,10,none⟩=some c/\w.cell? ⟨q,11,none⟩=some d/\w.cell? ⟨q,12,none⟩=some e)/\(∀j,w.frozen? ⟨q,j,none⟩=false)/\q<w.heap.size:=
 ⟨⟨aq a 0,aq a 1,aq a 2,aq a 3,aq a 4,aq a 5,aq a 6,aq a 7,aq a 8,aq a 9,aq a 10,aq a 11,aq a 12⟩,λj=>cO a j,(aC.1 a).1⟩
theorem sW(M _n:Nat)(k h:Int)(s:ByteArray)(xa:Option Addr)(j xc:Nat)(i:ByteArray)(a:Option Addr)(len c:Nat)(w:World)(o:Option (Cl (M+1)))(D:Hid (o=none))(F:(i.toList==[111,110])=false)(b:Hid (∀w1,ai w w1->ak 90 #[.agg #[ab k,ab h,ae s,.slice xa j xc]] w1 λe w'=>e=.returned (.tuple #[ae i,.slice a len c])/\ai w1 w')):ak 126 #[.agg #[ab k,ab h,ae s,.slice xa j xc]] w (iQ M o w):=by
 go_enter Tryz.func126,Tryz.ntmps126;go_wp2_with fail;refine(b.out _ (by go_grown)).mono ?_;rintro e w1 ⟨rfl,d⟩;obtain⟨E,g,f,I⟩:=dX d;have l:=ao f;have m:=ao g;clear d E g f b;obtain⟨⟨n,d1,t,u,x,y,z,A,B,C,p,q,r⟩,G,H⟩:=th m.out;go_wp2_with fail;exact ar (v:=.tuple #[.agg #[ab 0,ab 0,ae .empty,.slice none 0 0,ab 0,ab 0,ae .empty,.slice none 0 0,.slice none 0 0,ab 0,ab 0,ae .empty,.slice none 0 0],.bool false]) (by simp[results,Tryz.results126,go_sem,n,d1,t,u,x,y,z,A,B,C,p,q,r];rfl) rfl (lk D.out ((qx _ _ _ _ _ _ _ _ _ _ _ _ _ _ _).below l.out (by omega)))
theorem uQ(M _n:Nat)(k h:Int)(s:ByteArray)(xa:Option Addr)(j xc:Nat)(i:ByteArray)(a:Option Addr)(len c:Nat)(w:World)(o:Option (Cl (M+1)))(D:Hid (o=none))(F:(i.toList==[111,110])=true)(_hl:((len:Int)==4)=false)(H:((len:Int) !=4)=true)(b:Hid (∀w1,ai w w1->ak 90 #[.agg #[ab k,ab h,ae s,.slice xa j xc]] w1 λe w'=>e=.returned (.tuple #[ae i,.slice a len c])/\ai w1 w')):ak 126 #[.agg #[ab k,ab h,ae s,.slice xa j xc]] w (iQ M o w):=by
 go_enter Tryz.func126,Tryz.ntmps126;go_wp2_with fail;refine(b.out _ (by go_grown)).mono ?_;rintro e w1 ⟨rfl,d⟩;obtain⟨E,g,f,J⟩:=dX d;have l:=ao f;have m:=ao g;clear d E g f b;obtain⟨⟨n,d1,t,u,x,y,z,A,B,C,p,q,r⟩,G,I⟩:=th m.out;go_wp2_with fail;exact ar (v:=.tuple #[.agg #[ab 0,ab 0,ae .empty,.slice none 0 0,ab 0,ab 0,ae .empty,.slice none 0 0,.slice none 0 0,ab 0,ab 0,ae .empty,.slice none 0 0],.bool false]) (by simp[results,Tryz.results126,go_sem,n,d1,t,u,x,y,z,A,B,C,p,q,r];rfl) rfl (lk D.out ((qx _ _ _ _ _ _ _ _ _ _ _ _ _ _ _).below l.out (by omega)))
theorem sU(M _n:Nat)(k l:Int)(s:ByteArray)(xa:Option Addr)(n xc:Nat)(m:ByteArray)(a po c:Nat)(w:World)(o:Option (Cl (M+1)))(F:Hid (o=none))(I:(m.toList==[111,110])=true)(G:a<w.heap.size)(j:Int)(f:w.cell? ⟨a,po+8,none⟩=some (ab j))(K:(j !=4)=true)(d:Hid (∀w1,ai w w1->ak 90 #[.agg #[ab k,ab l,ae s,.slice xa n xc]] w1 λe w'=>e=.returned (.tuple #[ae m,.slice (some ⟨a,po,none⟩) 4 c])/\ai w1 w')):ak 126 #[.agg #[ab k,ab l,ae s,.slice xa n xc]] w (iQ M o w):=by
 go_enter Tryz.func126,Tryz.ntmps126;go_wp2_with fail;refine(d.out _ (by go_grown)).mono ?_;rintro e w1 ⟨rfl,g⟩;obtain⟨H,i,h,O⟩:=dX g;have b:=ao h;have p:=ao i;clear g H i h d;replace f:=(ap b.out _ _ G).trans f;have L:a<w1.heap.size:=by omega
 obtain⟨⟨q,d1,x,y,z,A,B,C,D,E,r,t,u⟩,J,N⟩:=th p.out;go_wp2_with fail;exact ar (v:=.tuple #[.agg #[ab 0,ab 0,ae .empty,.slice none 0 0,ab 0,ab 0,ae .empty,.slice none 0 0,.slice none 0 0,ab 0,ab 0,ae .empty,.slice none 0 0],.bool false]) (by simp[results,Tryz.results126,go_sem,q,d1,x,y,z,A,B,C,D,E,r,t,u];rfl) rfl (lk F.out ((qx _ _ _ _ _ _ _ _ _ _ _ _ _ _ _).below b.out (by omega)))
theorem Lz{n g a po:Nat}{w w':World}{y x t:Tm (n+1)}(d:a<g)(c:bE g w w')(k:(w.cell? ⟨a,po,none⟩=some (ab y.1.1)/\w.cell? ⟨a,po+1,none⟩=some (ab y.1.2.1)/\w.cell? ⟨a,po+2,none⟩=some (ae y.1.2.2)/\w.cell? ⟨a,po+3,none⟩=some (.slice y.2.1.1 y.2.2.length y.2.1.2))/\(w.cell? ⟨a,po+4,none⟩=some (ab x.1.1)/\w.cell? ⟨a,po+5,none⟩=some (ab x.1.2.1)/\w.cell? ⟨a,po+6,none⟩=some (ae x.1.2.2)/\w.cell? ⟨a,po+7,none⟩=some (.slice x.2.1.1 x.2.2.length x.2.1.2))/\(w.cell? ⟨a,po+12,none⟩=some (ab t.1.1)/\w.cell? ⟨a,po+13,none⟩=some (ab t.1.2.1)/\w.cell? ⟨a,po+14,none⟩=some (ae t.1.2.2)/\w.cell? ⟨a,po+15,none⟩=some (.slice t.2.1.1 t.2.2.length t.2.1.2))):(w'.cell? ⟨a,po,none⟩=some (ab y.1.1)/\w'.cell? ⟨a,po+1,none⟩=some (ab y.1.2.1)/\w'.cell? ⟨a,po+2,none⟩=some (ae y.1.2.2)/\w'.cell? ⟨a,po+3,none⟩=some (.slice y.2.1.1 y.2.2.length y.2.1.2))/\(w'.cell? ⟨a,po+4,none⟩=some (ab x.1.1)/\w'.cell? ⟨a,po+5,none⟩=some (ab x.1.2.1)/\w'.cell? ⟨a,po+6,none⟩=some (ae x.1.2.2)/\w'.cell? ⟨a,po+7,none⟩=some (.slice x.2.1.1 x.2.2.length x.2.1.2))/\(w'.cell? ⟨a,po+12,none⟩=some (ab t.1.1)/\w'.cell? ⟨a,po+13,none⟩=some (ab t.1.2.1)/\w'.cell? ⟨a,po+14,none⟩=some (ae t.1.2.2)/\w'.cell? ⟨a,po+15,none⟩=some (.slice t.2.1.1 t.2.2.length t.2.1.2)):=by
 have b:=λo=>fP c (show a≠g by omega) o;exact⟨⟨(b _).trans k.1.1,(b _).trans k.1.2.1,(b _).trans k.1.2.2.1,(b _).trans k.1.2.2.2⟩,⟨(b _).trans k.2.1.1,(b _).trans k.2.1.2.1,(b _).trans k.2.1.2.2.1,(b _).trans k.2.1.2.2.2⟩,(b _).trans k.2.2.1,(b _).trans k.2.2.2.1,(b _).trans k.2.2.2.2.1,(b _).trans k.2.2.2.2.2⟩
theorem sV(M n:Nat)(k aO:Int)(s:ByteArray)(xa:Option Addr)(aS xc:Nat)(aR:ByteArray)(d po c:Nat)(w:World)(y x m t:Tm (n+1))(ag:n+1<=M+1)(an:Option (List (Ac (M+1))))(o:Option (Cl (M+1)))(aG:Hid (o=an.map λl=>((aN (M+1) (n+1) y,aN (M+1) (n+1) x,aN (M+1) (n+1) t),(none,0),l)))(bs:(aR.toList==[111,110])=true)(h:d<w.heap.size)(Q:w.cell? ⟨d,po,none⟩=some (ab y.1.1))(R:w.cell? ⟨d,po+1,none⟩=some (ab y.1.2.1))(S:w.cell? ⟨d,po+2,none⟩=some (ae y.1.2.2))(T:w.cell? ⟨d,po+3,none⟩=some (.slice y.2.1.1 y.2.2.length y.2.1.2))(K:w.cell? ⟨d,po+4,none⟩=some (ab x.1.1))(L:w.cell? ⟨d,po+5,none⟩=some (ab x.1.2.1))(N:w.cell? ⟨d,po+6,none⟩=some (ae x.1.2.2))(O:w.cell? ⟨d,po+7,none⟩=some (.slice x.2.1.1 x.2.2.length x.2.1.2))(X:w.cell? ⟨d,po+8,none⟩=some (ab m.1.1))(ah:w.cell? ⟨d,po+9,none⟩=some (ab m.1.2.1))(aj:w.cell? ⟨d,po+10,none⟩=some (ae m.1.2.2))(al:w.cell? ⟨d,po+11,none⟩=some (.slice m.2.1.1 m.2.2.length m.2.1.2))(G:w.cell? ⟨d,po+12,none⟩=some (ab t.1.1))(H:w.cell? ⟨d,po+13,none⟩=some (ab t.1.2.1))(I:w.cell? ⟨d,po+14,none⟩=some (ae t.1.2.2))(J:w.cell? ⟨d,po+15,none⟩=some (.slice t.2.1.1 t.2.2.length t.2.1.2))(bh:m.1.1=4)(aA:Hid (∀w1,ai w w1->ak 90 #[.agg #[ab k,ab aO,ae s,.slice xa aS xc]] w1 λe w'=>e=.returned (.tuple #[ae aR,.slice (some ⟨d,po,none⟩) 4 c])/\ai w1 w'))(au:Hid (∀w1,ai w w1->ak 156 #[.slice m.2.1.1 m.2.2.length m.2.1.2,.func (Fn.func 157) #[] #[]] w1 (kN 11 (fT (M+1)) (ic (M+1)) (lp (M+1)) (BU (M+1)) an w1)))(av:Hid (∀w1,ai w w1->ak 54 #[.agg #[ab y.1.1,ab y.1.2.1,ae y.1.2.2,.slice y.2.1.1 y.2.2.length y.2.1.2]] w1 λe w'=>∃a:Tm (n+1),e=.returned (.agg #[ab a.1.1,ab a.1.2.1,ae a.1.2.2,.slice a.2.1.1 a.2.2.length a.2.1.2])/\Hid (ai w1 w'/\In w'.heap.size w' (n+1) a/\bZ (λq=>w1.heap.size<=q) (n+1) a/\aw (n+1) a (n+1) y=true)))(ax:Hid (∀w1,ai w w1->ak 54 #[.agg #[ab x.1.1,ab x.1.2.1,ae x.1.2.2,.slice x.2.1.1 x.2.2.length x.2.1.2]] w1 λe w'=>∃a:Tm (n+1),e=.returned (.agg #[ab a.1.1,ab a.1.2.1,ae a.1.2.2,.slice a.2.1.1 a.2.2.length a.2.1.2])/\Hid (ai w1 w'/\In w'.heap.size w' (n+1) a/\bZ (λq=>w1.heap.size<=q) (n+1) a/\aw (n+1) a (n+1) x=true)))(ay:Hid (∀w1,ai w w1->ak 54 #[.agg #[ab t.1.1,ab t.1.2.1,ae t.1.2.2,.slice t.2.1.1 t.2.2.length t.2.1.2]] w1 λe w'=>∃a:Tm (n+1),e=.returned (.agg #[ab a.1.1,ab a.1.2.1,ae a.1.2.2,.slice a.2.1.1 a.2.2.length a.2.1.2])/\Hid (ai w1 w'/\In w'.heap.size w' (n+1) a/\bZ (λq=>w1.heap.size<=q) (n+1) a/\aw (n+1) a (n+1) t=true))):ak 126 #[.agg #[ab k,ab aO,ae s,.slice xa aS xc]] w (iQ M o w):=by
 go_enter Tryz.func126,Tryz.ntmps126;go_wp2_with fail;refine(aA.out _ (by go_grown)).mono ?_;rintro e w1 ⟨rfl,aC⟩;obtain⟨bl,aK,aD,bz⟩:=dX aC;have f:=ao aD;have aB:=ao aK;clear aC bl aK aD aA;replace Q:=(ap f.out _ _ h).trans Q;replace R:=(ap f.out _ _ h).trans R;replace S:=(ap f.out _ _ h).trans S;replace T:=(ap f.out _ _ h).trans T;replace K:=(ap f.out _ _ h).trans K;replace L:=(ap f.out _ _ h).trans L;replace N:=(ap f.out _ _ h).trans N;replace O:=(ap f.out _ _ h).trans O;replace X:=(ap f.out _ _ h).trans X;replace ah:=(ap f.out _ _ h).trans ah;replace aj:=(ap f.out _ _ h).trans aj;replace al:=(ap f.out _ _ h).trans al;replace G:=(ap f.out _ _ h).trans G;replace H:=(ap f.out _ _ h).trans H;replace I:=(ap f.out _ _ h).trans I;replace J:=(ap f.out _ _ h).trans J;have bj:d<w1.heap.size:=by omega
 rw[bh]at X;go_wp2_with fail;refine(au.out _ f.out).mono ?_;rintro e u ⟨l,j,r,aq,rfl,az⟩;have U:=ao az.out.1;have z:Hid (ai w u):=f.out.trans (U.out.mono f.out.size);have aW:=ao ((U.out.block (w.heap.size+1) (by omega)).trans aB.out);have bu:w1.heap.size<=u.heap.size:=U.out.size;have bk:d<u.heap.size:=by omega
 have B:Hid (∀w',ai u w'->(w'.cell? ⟨d,po,none⟩=some (ab y.1.1)/\w'.cell? ⟨d,po+1,none⟩=some (ab y.1.2.1)/\w'.cell? ⟨d,po+2,none⟩=some (ae y.1.2.2)/\w'.cell? ⟨d,po+3,none⟩=some (.slice y.2.1.1 y.2.2.length y.2.1.2))/\(w'.cell? ⟨d,po+4,none⟩=some (ab x.1.1)/\w'.cell? ⟨d,po+5,none⟩=some (ab x.1.2.1)/\w'.cell? ⟨d,po+6,none⟩=some (ae x.1.2.2)/\w'.cell? ⟨d,po+7,none⟩=some (.slice x.2.1.1 x.2.2.length x.2.1.2))/\(w'.cell? ⟨d,po+12,none⟩=some (ab t.1.1)/\w'.cell? ⟨d,po+13,none⟩=some (ab t.1.2.1)/\w'.cell? ⟨d,po+14,none⟩=some (ae t.1.2.2)/\w'.cell? ⟨d,po+15,none⟩=some (.slice t.2.1.1 t.2.2.length t.2.1.2))):=λw' bb=>by
  have i:=λo=>(ap bb d o bk).trans (ap U.out d o bj);exact⟨⟨(i _).trans Q,(i _).trans R,(i _).trans S,(i _).trans T⟩,⟨(i _).trans K,(i _).trans L,(i _).trans N,(i _).trans O⟩,(i _).trans G,(i _).trans H,(i _).trans I,(i _).trans J⟩
 obtain⟨W,af⟩:∃W,l.length=W:=⟨_,rfl⟩;rw[af];have aV:=ao af;clear au aB Q R S T K L N O X ah aj al G H I J af;obtain⟨⟨Q,R,S,T⟩,⟨K,L,N,O⟩,G,H,I,J⟩:=B.out u (am _ _);go_wp2_with fail
 go_region_held3 (λw'=>(w'.cell? ⟨d,po,none⟩=some (ab y.1.1)/\w'.cell? ⟨d,po+1,none⟩=some (ab y.1.2.1)/\w'.cell? ⟨d,po+2,none⟩=some (ae y.1.2.2)/\w'.cell? ⟨d,po+3,none⟩=some (.slice y.2.1.1 y.2.2.length y.2.1.2))/\(w'.cell? ⟨d,po+4,none⟩=some (ab x.1.1)/\w'.cell? ⟨d,po+5,none⟩=some (ab x.1.2.1)/\w'.cell? ⟨d,po+6,none⟩=some (ae x.1.2.2)/\w'.cell? ⟨d,po+7,none⟩=some (.slice x.2.1.1 x.2.2.length x.2.1.2))/\(w'.cell? ⟨d,po+12,none⟩=some (ab t.1.1)/\w'.cell? ⟨d,po+13,none⟩=some (ab t.1.2.1)/\w'.cell? ⟨d,po+14,none⟩=some (ae t.1.2.2)/\w'.cell? ⟨d,po+15,none⟩=some (.slice t.2.1.1 t.2.2.length t.2.1.2))) (first|with_reducible assumption|with_reducible exact B.out _ A.out|with_reducible exact B.out _ F.out|with_reducible exact B.out _ E.out|with_reducible exact aU.out _ (qx _ _ _ _ _ _ _ _ _ _ _ _ _ _ _)|exact B.out _ (am _ _).drew)
  ((first
   | (go_at_call 54;refine(av.out _ z.out.drew).mono ?_;rintro e aP ⟨a,rfl,V⟩;have E:=ao (cD V.out.1);clear av)
   | (go_at_call 54;refine(ax.out _ (z.out.trans (E.out.mono z.out.size))).mono ?_;rintro e aQ ⟨q,rfl,C⟩;have F:=ao (E.out.trans (C.out.1.mono E.out.size));clear ax)
   | (go_at_call 54;refine(ay.out _ (z.out.trans (F.out.mono z.out.size))).mono ?_;rintro e p ⟨g,rfl,D⟩;have A:=ao (F.out.trans (D.out.1.mono F.out.size));clear ay;have aX:=ao ((A.out.block (w.heap.size+1) (by omega)).trans aW.out);obtain⟨⟨aZ,d1,a3,a4,a5,a6,a7,a8,a9,ba,a0,a1,a2⟩,bt,bx⟩:=th aX.out;have aU:=ao (λaY (be:bE (w.heap.size+1) p aY)=>Lz (y:=y) (x:=x) (t:=t) (show d<w.heap.size+1 by omega) be (B.out _ A.out)))))
 go_wp2_with fail;have aT:Hid (ai w p):=z.out.trans (A.out.mono z.out.size);have bv:u.heap.size<=aP.heap.size:=E.out.size;have bw:u.heap.size<=aQ.heap.size:=F.out.size;have aJ:=D.out.1;have aI:=C.out.1.trans (D.out.1.mono C.out.1.size);have Y:=iv (M:=M) ag ((V.out.2.1.below aI).mono aI.size) (V.out.2.2.1.mono λq (aH:u.heap.size<=q)=>(show w.heap.size+1<q by omega)) V.out.2.2.2;have Z:=iv (M:=M) ag ((C.out.2.1.below aJ).mono aJ.size) (C.out.2.2.1.mono λq (aH:aP.heap.size<=q)=>(show w.heap.size+1<q by omega)) C.out.2.2.2;have aa:=iv (M:=M) ag D.out.2.1 (D.out.2.2.1.mono λq (aH:aQ.heap.size<=q)=>(show w.heap.size+1<q by omega)) D.out.2.2.2;refine ar (v:=.tuple #[.agg #[ab a.1.1,ab a.1.2.1,ae a.1.2.2,.slice a.2.1.1 a.2.2.length a.2.1.2,ab q.1.1,ab q.1.2.1,ae q.1.2.2,.slice q.2.1.1 q.2.2.length q.2.1.2,.slice j W r,ab g.1.1,ab g.1.2.1,ae g.1.2.2,.slice g.2.1.1 g.2.2.length g.2.1.2],.bool aq]) (by simp[results,Tryz.results126,go_sem,aZ,d1,a3,a4,a5,a6,a7,a8,a9,ba,a0,a1,a2]) rfl ?_;have e:eO (M+1) ((aN (M+1) (n+1) a,aN (M+1) (n+1) q,aN (M+1) (n+1) g),(j,r),l)=[ab a.1.1,ab a.1.2.1,ae a.1.2.2,.slice a.2.1.1 a.2.2.length a.2.1.2,ab q.1.1,ab q.1.2.1,ae q.1.2.2,.slice q.2.1.1 q.2.2.length q.2.1.2,.slice j W r,ab g.1.1,ab g.1.2.1,ae g.1.2.2,.slice g.2.1.1 g.2.2.length g.2.1.2]:=by
  show gX (M+1) (aN (M+1) (n+1) a)++gX (M+1) (aN (M+1) (n+1) q)++(.slice j l.length r::gX (M+1) (aN (M+1) (n+1) g))=_;rw[f9,f9,f9,aV.out];rfl
 have aM:∀w',bE (w.heap.size+1) p w'->iQ M o w (.returned (.tuple #[.agg (eO (M+1) ((aN (M+1) (n+1) a,aN (M+1) (n+1) q,aN (M+1) (n+1) g),(j,r),l)).toArray,.bool aq])) w':=λw' aF=>by
  obtain⟨bA,bm,bn,bo,bp,bq⟩:=az.out;have ad:=cu (fu (M+1)) 11 (fT (M+1)) j;have bf:pr p.heap.size p 11 (fT (M+1)) (ic (M+1) p.heap.size p) j l:=ad.mono A.out.size (ad.below A.out bo);have bi:sN (lp (M+1) (λb=>w.heap.size+1<b)) (λb=>w.heap.size+1<b) j l:=ad.1 _ _ _ (λb (bc:w1.heap.size<=b)=>(show w.heap.size+1<b by omega)) bp;have bd:gL (M+1) p.heap.size p ((aN (M+1) (n+1) a,aN (M+1) (n+1) q,aN (M+1) (n+1) g),(j,r),l):=⟨⟨Y.1,Z.1,aa.1⟩,bn,bf⟩;have aE:ju (M+1) (λb=>w.heap.size+1<b) ((aN (M+1) (n+1) a,aN (M+1) (n+1) q,aN (M+1) (n+1) g),(j,r),l):=⟨⟨Y.2.1,Z.2.1,aa.2.1⟩,bi⟩;refine⟨((aN (M+1) (n+1) a,aN (M+1) (n+1) q,aN (M+1) (n+1) g),(j,r),l),aq,rfl,aF.below aT.out (by omega),?_,aF.stays (dU _) (P:=λb=>w.heap.size+1<b) (by omega) aE bd,(dU _).1 _ _ _ (λb (bc:w.heap.size+1<b)=>(show w.heap.size<=b by omega)) aE,λbB aL=>?_⟩
  ·rw[bm,aG.out];cases an<;>rfl
  ·rw[aG.out]at aL;obtain⟨br,bg,rfl⟩:=cd.1 aL;exact⟨⟨Y.2.2,Z.2.2,aa.2.2⟩,bq br bg⟩
 rw[e]at aM;exact aM _ (qx _ _ _ _ _ _ _ _ _ _ _ _ _ _ _)
theorem uP(M n:Nat)(aq:n<=M+1)(x:Tm n)(B:Nat)(w:World)(K:In B w n x)(ad:aA ⟨n,x⟩)(g:B<=w.heap.size):ak 126 #[df n x] w (iQ M (yw M n x) w):=by
 cases n with
 | zero=>exact K.elim
 | succ n=>
 obtain⟨G,c,i,ap,ao,m⟩:=qI n x B w K g;show ak 126 #[.agg #[ab x.1.1,ab x.1.2.1,ae x.1.2.2,.slice x.2.1.1 x.2.2.length x.2.1.2]] w (iQ M (rL M n (eP n x) (bI n x)) w);have r:∀e∈bI n x,aA ⟨n,e⟩:=λe j=>dW ad j;generalize eP n x=b at*;generalize bI n x=d at*;have F:si b Kj=(b.toList==[111,110]):=mI b [111,110];have get:∀k,k<d.length->∃e,d[k]?=some e:=λk v=>⟨d[k],aE v⟩;by_cases f:(b.toList==[111,110])=true
 ·by_cases q:d.length=4
  ·obtain⟨e,j⟩:=get 0 (by omega);obtain⟨u,D⟩:=get 1 (by omega);obtain⟨a,y⟩:=get 2 (by omega);obtain⟨t,C⟩:=get 3 (by omega);have h:rL M n b d=if bN ⟨n,a⟩=4 then (cC (rK M (n-1)) (DN n a)).map λl=>((aN (M+1) n e,aN (M+1) n u,aN (M+1) n t),(none,0),l)else none:=by
    unfold rL;rw[if_pos (by rw[F,f,q];rfl),j,D,y,C];rfl
   rw[q]at m;obtain⟨N,po,rfl⟩:=qA i (by omega);cases n with
   | zero=>exact(re i j).elim
   | succ n=>
   obtain⟨⟨O,P,Q,R⟩,ag,ar⟩:=gU i j;obtain⟨⟨S,d1,T,U⟩,ah,_⟩:=gU i D;obtain⟨⟨L,ai,aj,al⟩,I,_⟩:=gU i y;obtain⟨⟨V,W,X,Y⟩,af,_⟩:=gU i C;by_cases o:a.1.1=4
   ·have A:rL M (n+1) b d=(cC (rK M n) a.2.2).map λl=>((aN (M+1) (n+1) e,aN (M+1) (n+1) u,aN (M+1) (n+1) t),(none,0),l):=by
      rw[h,if_pos (show bN ⟨n+1,a⟩=4 from o)];rfl
    have J:=r a (aG y);have aa:a.2.2.length<=8:=by
     exact lP J o
    exact sV M n _ _ _ _ _ _ b N po c w e u a t (by omega) (cC (rK M n) a.2.2) _ A f (by omega) (by simpa using O) (by simpa using P) (by simpa using Q) (by simpa using R) (by simpa using S) (by simpa using d1) (by simpa using T) (by simpa using U) (by simpa using L) (by simpa using ai) (by simpa using aj) (by simpa using al) (by simpa using V) (by simpa using W) (by simpa using X) (by simpa using Y) o m
     (λam p=>yC M n a.2.2 a.2.2.length rfl aa a.2.1.1 a.2.1.2 B am ((show ft B w n a.2.2 a.2.1.1 from I.2).below (p.mono g)) (ax g p.size) (λE s an Z=>by
      have H:=p.trans (Z.mono p.size);obtain⟨k,v⟩:=cJ s;rcases I.2 with z|⟨_,_,_,_,z⟩
      ·rw[z]at s;cases s
      ·exact A0 M n (by omega) E B an ((z k E v).2.below (H.mono g)) (aR n a E J s) (ax g H.size)))
     (lF ag (r e (aG j)) g) (lF ah (r u (aG D)) g) (lF af (r t (aG C)) g)
   ·have A:rL M (n+1) b d=none:=by rw[h,if_neg (show¬bN ⟨n+1,a⟩=4 from o)]
    exact sU M n _ _ _ _ _ _ b N po c w _ A f (by omega) a.1.1 (by simpa using L) (by simpa using o) m
  ·have h:rL M n b d=none:=by simp[rL,q]
   exact uQ M n _ _ _ _ _ _ b G d.length c w _ h f (ux q) (by simp;omega) m
 replace f:=nV f;have h:rL M n b d=none:=by simp[rL,F,f]
 exact sW M n _ _ _ _ _ _ b G d.length c w _ h f m
abbrev oW(M:Nat)(o:Option (Bh (M+1)))(w:World)(e:Ending)(w':World):Prop:=qe (oR (M+1)) (oP (M+1)) (jt (M+1)) (xA (M+1)) o w e w'
theorem wG{n:Nat}{x:Tm (n+1)}(b:aA ⟨n+1,x⟩):(bI n x).length<=8:=by
 unfold bI;split
 ·rename_i a;have:=lP b a;split
  ·split
   ·rw[eK];omega
   ·simp
  ·simp
 ·simp
theorem I0{n:Nat}{a:Tm (n+1)}(d:aA ⟨n+1,a⟩)(b:a.1.1=2):a.1.2.2.size<=2048:=by
 have:=d (bu n a) (by simp[av,bu]);have c:dE a.1.2.2=true:=by
  simp only[cq,bu,b]at this;simp at this;exact this.1.1
 simp only[dE,pY,aB,bX]at c;omega
theorem Av{n B:Nat}{w:World}{q:List (Tm n)}{a:Option Addr}(b:ft B w n q a){y:Tm n}(c:y∈q):In B w n y:=by
 rcases b with b|⟨_,_,_,_,b⟩
 ·subst b;cases c
 ·obtain⟨e,d⟩:=cJ c;exact(b e y d).2
theorem pK{M:Nat}{o:Option (Bh (M+1))}{w w':World}(b:o=none)(a:ai w w'):oW M o w (.returned (.tuple #[.agg #[ae .empty,.slice none 0 0],.bool false])) w':=by
 subst b;exact⟨(.empty,(none,0),[]),false,rfl,a,rfl,⟨aF _,⟨aj _,aF _⟩,ag rfl⟩,ag rfl,λd c=>by cases c⟩
theorem yF(M _n:Nat)(k i:Int)(s:ByteArray)(xa:Option Addr)(l xc:Nat)(j:ByteArray)(a:Option Addr)(len c:Nat)(w:World)(o:Option (Bh (M+1)))(p:Hid (o=none))(t:(j.toList==[98,101,104])=false)(d:Hid (∀w1,ai w w1->ak 90 #[.agg #[ab k,ab i,ae s,.slice xa l xc]] w1 λe w'=>e=.returned (.tuple #[ae j,.slice a len c])/\ai w1 w')):ak 92 #[.agg #[ab k,ab i,ae s,.slice xa l xc]] w (oW M o w):=by
 go_enter Tryz.func92,Tryz.ntmps92;go_wp2_with fail;refine(d.out _ (by go_grown)).mono ?_;rintro e w1 ⟨rfl,f⟩;obtain⟨q,h,g,y⟩:=dX f;have m:=ao g;have b:=ao h;clear f q h g d;have n:w1.cell? ⟨w.heap.size+1,0,none⟩=some (ae ⟨#[]⟩):=aq b.out 0;have d1:w1.cell? ⟨w.heap.size+1,1,none⟩=some (.slice none 0 0):=aq b.out 1;have u:=λr=>cO b.out r;have x:w.heap.size+1<w1.heap.size:=(aC.1 b.out).1;go_wp2_with fail;exact ar (v:=.tuple #[.agg #[ae .empty,.slice none 0 0],.bool false]) (by simp[results,Tryz.results92,go_sem,n,d1];rfl) rfl (pK p.out ((bE.set (bE.set (bE.refl _ _) _ _) _ _).below m.out (by omega)))
theorem A2(M _n:Nat)(k i:Int)(s:ByteArray)(xa:Option Addr)(l xc:Nat)(j:ByteArray)(a:Option Addr)(len c:Nat)(w:World)(o:Option (Bh (M+1)))(p:Hid (o=none))(t:(j.toList==[98,101,104])=true)(x:(len:Int)<1)(d:Hid (∀w1,ai w w1->ak 90 #[.agg #[ab k,ab i,ae s,.slice xa l xc]] w1 λe w'=>e=.returned (.tuple #[ae j,.slice a len c])/\ai w1 w')):ak 92 #[.agg #[ab k,ab i,ae s,.slice xa l xc]] w (oW M o w):=by
 go_enter Tryz.func92,Tryz.ntmps92;go_wp2_with fail;refine(d.out _ (by go_grown)).mono ?_;rintro e w1 ⟨rfl,f⟩;obtain⟨q,h,g,z⟩:=dX f;have m:=ao g;have b:=ao h;clear f q h g d;have n:w1.cell? ⟨w.heap.size+1,0,none⟩=some (ae ⟨#[]⟩):=aq b.out 0;have d1:w1.cell? ⟨w.heap.size+1,1,none⟩=some (.slice none 0 0):=aq b.out 1;have u:=λr=>cO b.out r;have y:w.heap.size+1<w1.heap.size:=(aC.1 b.out).1;go_wp2_with fail;exact ar (v:=.tuple #[.agg #[ae .empty,.slice none 0 0],.bool false]) (by simp[results,Tryz.results92,go_sem,n,d1];rfl) rfl (pK p.out ((bE.set (bE.set (bE.refl _ _) _ _) _ _).below m.out (by omega)))
theorem yD(M _n:Nat)(k m:Int)(s:ByteArray)(xa:Option Addr)(p xc:Nat)(n:ByteArray)(b po len c:Nat)(w:World)(o:Option (Bh (M+1)))(r:Hid (o=none))(y:(n.toList==[98,101,104])=true)(B:¬(len:Int)<1)(C:(0:Int)<(len:Int))(t:b<w.heap.size)(l:Int)(g:w.cell? ⟨b,po,none⟩=some (ab l))(A:(l !=2)=true)(f:Hid (∀w1,ai w w1->ak 90 #[.agg #[ab k,ab m,ae s,.slice xa p xc]] w1 λe w'=>e=.returned (.tuple #[ae n,.slice (some ⟨b,po,none⟩) len c])/\ai w1 w')):ak 92 #[.agg #[ab k,ab m,ae s,.slice xa p xc]] w (oW M o w):=by
 go_enter Tryz.func92,Tryz.ntmps92;go_wp2_with fail;refine(f.out _ (by go_grown)).mono ?_;rintro e w1 ⟨rfl,h⟩;obtain⟨u,j,i,F⟩:=dX h;have d:=ao i;have a:=ao j;clear h u j i f;replace g:=(ap d.out _ _ t).trans g;have D:b<w1.heap.size:=by omega
 have q:w1.cell? ⟨w.heap.size+1,0,none⟩=some (ae ⟨#[]⟩):=aq a.out 0;have d1:w1.cell? ⟨w.heap.size+1,1,none⟩=some (.slice none 0 0):=aq a.out 1;have z:=λx=>cO a.out x;have E:w.heap.size+1<w1.heap.size:=(aC.1 a.out).1;go_wp2_with fail;exact ar (v:=.tuple #[.agg #[ae .empty,.slice none 0 0],.bool false]) (by simp[results,Tryz.results92,go_sem,q,d1];rfl) rfl (pK r.out ((bE.set (bE.set (bE.refl _ _) _ _) _ _).below d.out (by omega)))
theorem A3(M _n:Nat)(k Q:Int)(s:ByteArray)(xa:Option Addr)(S xc:Nat)(R:ByteArray)(d po:Nat)(w:World)(y2:ByteArray)(af:y2.size<=2048)(t:Option (List (Cl (M+1))))(o:Option (Bh (M+1)))(J:Hid (o=t.map λl=>(y2,(none,0),l)))(aw:(R.toList==[98,101,104])=true)(K:d<w.heap.size)(m:w.cell? ⟨d,po,none⟩=some (ab 2))(n:w.cell? ⟨d,po+2,none⟩=some (ae y2))(C:Hid (∀w1,ai w w1->ak 90 #[.agg #[ab k,ab Q,ae s,.slice xa S xc]] w1 λe w'=>e=.returned (.tuple #[ae R,.slice (some ⟨d,po,none⟩) 1 1])/\ai w1 w'))(y:Hid (∀w1,ai w w1->ak 125 #[.slice (some ⟨d,po,none⟩) 0 0,.func (Fn.func 126) #[] #[]] w1 (kN 13 (eO (M+1)) (gL (M+1)) (ju (M+1)) (BO (M+1)) t w1))):ak 92 #[.agg #[ab k,ab Q,ae s,.slice xa S xc]] w (oW M o w):=by
 go_enter Tryz.func92,Tryz.ntmps92;go_wp2_with fail;refine(C.out _ (by go_grown)).mono ?_;rintro e w1 ⟨rfl,F⟩;obtain⟨ad,N,G,aB⟩:=dX F;have f:=ao G;have D:=ao N;clear F ad N G C;replace m:=(ap f.out _ _ K).trans m;replace n:=(ap f.out _ _ K).trans n;have L:d<w1.heap.size:=by omega
 go_wp2_with fail;refine(y.out _ f.out).mono ?_;rintro e x ⟨l,c,i,u,rfl,B⟩;have g:=ao B.out.1;have z:Hid (ai w x):=f.out.trans (g.out.mono f.out.size);have E:=ao ((g.out.block (w.heap.size+1) (by omega)).trans D.out);have ay:w1.heap.size<=x.heap.size:=g.out.size;have az:d<x.heap.size:=by omega
 replace m:=(ap g.out _ _ L).trans m;replace n:=(ap g.out _ _ L).trans n;obtain⟨j,r⟩:∃j,l.length=j:=⟨_,rfl⟩;rw[r];have U:=ao r;clear y D r;go_wp2_with fail;refine(dF _ _ af).mono ?_;rintro e a ⟨rfl,p⟩;have A:=ao p;have T:Hid (ai w a):=z.out.trans (p.mono z.out.size);have h:=ao ((p.block (w.heap.size+1) (by omega)).trans E.out);have V:a.cell? ⟨w.heap.size+1,0,none⟩=some (ae ⟨#[]⟩):=aq h.out 0;have d1:a.cell? ⟨w.heap.size+1,1,none⟩=some (.slice none 0 0):=aq h.out 1;have ax:=λag=>cO h.out ag;have aA:w.heap.size+1<a.heap.size:=(aC.1 h.out).1;clear p E h;go_wp2_with fail;refine ar (v:=.tuple #[.agg #[ae y2,.slice c j i],.bool u]) (by simp[results,Tryz.results92,go_sem,V,d1]) rfl ?_;have au:∀w',bE (w.heap.size+1) a w'->oW M o w (.returned (.tuple #[.agg #[ae y2,.slice c j i],.bool u])) w':=λw' I=>by
  obtain⟨aD,ah,aj,al,am,an⟩:=B.out;have q:=cu (dU (M+1)) 13 (eO (M+1)) c;have Y:pr a.heap.size a 13 (eO (M+1)) (gL (M+1) a.heap.size a) c l:=q.mono A.out.size (q.below A.out al);have aa:sN (ju (M+1) (λb=>w.heap.size+1<b)) (λb=>w.heap.size+1<b) c l:=q.1 _ _ _ (λb (W:w1.heap.size<=b)=>(show w.heap.size+1<b by omega)) am;have X:oP (M+1) a.heap.size a (y2,(c,i),l):=⟨(show y2.size<=maxLen by unfold maxLen;omega),aj,Y⟩;have H:jt (M+1) (λb=>w.heap.size+1<b) (y2,(c,i),l):=aa;refine⟨(y2,(c,i),l),u,by rw[<-U.out];rfl,I.below T.out (by omega),?_,I.stays (dJ _) (P:=λb=>w.heap.size+1<b) (by omega) H X,(dJ _).1 _ _ _ (λb (W:w.heap.size+1<b)=>(show w.heap.size<=b by omega)) H,λaE O=>?_⟩
  ·rw[ah,J.out];cases t<;>rfl
  ·rw[J.out]at O;obtain⟨av,Z,rfl⟩:=cd.1 O;exact⟨rfl,an av Z⟩
 exact au _ (bE.set (bE.set (bE.refl _ _) _ _) _ _)
theorem yE(M _n:Nat)(k T:Int)(s:ByteArray)(xa:Option Addr)(V xc:Nat)(U:ByteArray)(f po L c:Nat)(w:World)(y2:ByteArray)(ah:y2.size<=2048)(u:Option (List (Cl (M+1))))(o:Option (Bh (M+1)))(N:Hid (o=u.map λl=>(y2,(none,0),l)))(ay:(U.toList==[98,101,104])=true)(O:f<w.heap.size)(_hl:¬(L:Int)<1)(K:(0:Int)<(L:Int))(aD:(1:Int)<=(L:Int))(_hlc:(L:Int)<=(c:Int))(aB:¬c=1)(_hcm:(c:Int)<=9223372036854775807)(n:w.cell? ⟨f,po,none⟩=some (ab 2))(p:w.cell? ⟨f,po+2,none⟩=some (ae y2))(D:Hid (∀w1,ai w w1->ak 90 #[.agg #[ab k,ab T,ae s,.slice xa V xc]] w1 λe w'=>e=.returned (.tuple #[ae U,.slice (some ⟨f,po,none⟩) L c])/\ai w1 w'))(z:Hid (∀w1,ai w w1->ak 125 #[.slice (some ⟨f,po+4,none⟩) (L-1) (c-1),.func (Fn.func 126) #[] #[]] w1 (kN 13 (eO (M+1)) (gL (M+1)) (ju (M+1)) (BO (M+1)) u w1))):ak 92 #[.agg #[ab k,ab T,ae s,.slice xa V xc]] w (oW M o w):=by
 go_enter Tryz.func92,Tryz.ntmps92;go_wp2_with fail;refine(D.out _ (by go_grown)).mono ?_;rintro e w1 ⟨rfl,G⟩;obtain⟨ag,R,H,aG⟩:=dX G;have g:=ao H;have E:=ao R;clear G ag R H D;replace n:=(ap g.out _ _ O).trans n;replace p:=(ap g.out _ _ O).trans p;have Q:f<w1.heap.size:=by omega
 go_wp2_with fail;refine(z.out _ g.out).mono ?_;rintro e y ⟨l,d,j,x,rfl,C⟩;have h:=ao C.out.1;have A:Hid (ai w y):=g.out.trans (h.out.mono g.out.size);have F:=ao ((h.out.block (w.heap.size+1) (by omega)).trans E.out);have aA:w1.heap.size<=y.heap.size:=h.out.size;have aE:f<y.heap.size:=by omega
 replace n:=(ap h.out _ _ Q).trans n;replace p:=(ap h.out _ _ Q).trans p;obtain⟨m,t⟩:∃m,l.length=m:=⟨_,rfl⟩;rw[t];have X:=ao t;clear z E t;go_wp2_with fail;refine(dF _ _ ah).mono ?_;rintro e a ⟨rfl,q⟩;have B:=ao q;have W:Hid (ai w a):=A.out.trans (q.mono A.out.size);have i:=ao ((q.block (w.heap.size+1) (by omega)).trans F.out);have Y:a.cell? ⟨w.heap.size+1,0,none⟩=some (ae ⟨#[]⟩):=aq i.out 0;have d1:a.cell? ⟨w.heap.size+1,1,none⟩=some (.slice none 0 0):=aq i.out 1;have az:=λaj=>cO i.out aj;have aF:w.heap.size+1<a.heap.size:=(aC.1 i.out).1;clear q F i;go_wp2_with fail;refine ar (v:=.tuple #[.agg #[ae y2,.slice d m j],.bool x]) (by simp[results,Tryz.results92,go_sem,Y,d1]) rfl ?_;have aw:∀w',bE (w.heap.size+1) a w'->oW M o w (.returned (.tuple #[.agg #[ae y2,.slice d m j],.bool x])) w':=λw' J=>by
  obtain⟨aH,al,am,an,au,av⟩:=C.out;have r:=cu (dU (M+1)) 13 (eO (M+1)) d;have ad:pr a.heap.size a 13 (eO (M+1)) (gL (M+1) a.heap.size a) d l:=r.mono B.out.size (r.below B.out an);have af:sN (ju (M+1) (λb=>w.heap.size+1<b)) (λb=>w.heap.size+1<b) d l:=r.1 _ _ _ (λb (Z:w1.heap.size<=b)=>(show w.heap.size+1<b by omega)) au;have aa:oP (M+1) a.heap.size a (y2,(d,j),l):=⟨(show y2.size<=maxLen by unfold maxLen;omega),am,ad⟩;have I:jt (M+1) (λb=>w.heap.size+1<b) (y2,(d,j),l):=af;refine⟨(y2,(d,j),l),x,by rw[<-X.out];rfl,J.below W.out (by omega),?_,J.stays (dJ _) (P:=λb=>w.heap.size+1<b) (by omega) I aa,(dJ _).1 _ _ _ (λb (Z:w.heap.size+1<b)=>(show w.heap.size<=b by omega)) I,λaI S=>?_⟩
  ·rw[al,N.out];cases u<;>rfl
  ·rw[N.out]at S;obtain⟨ax,K,rfl⟩:=cd.1 S;exact⟨rfl,av ax K⟩
 exact aw _ (bE.set (bE.set (bE.refl _ _) _ _) _ _)
theorem A1(M n:Nat)(Z:n<=M+1)(x:Tm n)(B:Nat)(w:World)(K:In B w n x)(H:aA ⟨n,x⟩)(p:B<=w.heap.size):ak 92 #[df n x] w (oW M (yv M n x) w):=by
 cases n with
 | zero=>exact K.elim
 | succ n=>
 obtain⟨D,c,h,S,Y,k⟩:=qI n x B w K p;show ak 92 #[.agg #[ab x.1.1,ab x.1.2.1,ae x.1.2.2,.slice x.2.1.1 x.2.2.length x.2.1.2]] w (oW M (sT M n (eP n x) (bI n x)) w);have I:∀d∈bI n x,aA ⟨n,d⟩:=λd U=>dW H U;have R:(bI n x).length<=8:=wG H;generalize eP n x=e at*;generalize bI n x=a at*;have A:si e te=(e.toList==[98,101,104]):=mI e [98,101,104];by_cases f:(e.toList==[98,101,104])=true
 ·cases a with
  | nil=>
   have g:sT M n e []=none:=by simp[sT]
   exact A2 M n _ _ _ _ _ _ e D 0 c w _ g f (by omega) k
  | cons d a=>
   obtain⟨q,po,rfl⟩:=qA h (by simp);cases n with
   | zero=>exact(re h (show (d::a)[0]?=some d from rfl)).elim
   | succ n=>
   obtain⟨⟨m,W,E,X⟩,ad,aa⟩:=gU h (show (d::a)[0]?=some d from rfl);by_cases i:d.1.1=2
   ·have g:sT M (n+1) e (d::a)=(cC (yw M (n+1)) a).map λl=>(d.1.2.2,(none,0),l):=by
      simp[sT,A,f,bN,i,wi,fX,bu]
    have J:d.1.2.2.size<=2048:=I0 (I d (by simp)) i;have G:ft B w (n+1) a (some ⟨q,po+4,none⟩):=by
     rcases h with h|⟨b,o,v,t,h⟩
     ·cases h
     ·injection v with v;injection v with O P;subst O P
      exact ah ⟨q,po+4,rfl,t,λz j y=>by
       have:=h (z+1) j (by simpa using y);rw[show po+4+z*4=po+(z+1)*4 by omega]
       exact this⟩
    have C:∀(j:Option Addr)(u:Nat),ft B w (n+1) a j->∀r,ai w r->ak 125 #[.slice j a.length u,.func (Fn.func 126) #[] #[]] r (kN 13 (eO (M+1)) (gL (M+1)) (ju (M+1)) (BO (M+1)) (cC (yw M (n+1)) a) r):=λj u y r s=>
     sX M (n+1) a a.length rfl (by simp at R;omega) j u B r (y.below (s.mono p)) (ax p s.size) (λN L V Q=>by
      have t:=s.trans (Q.mono s.size)
      exact uP M (n+1) (by omega) N B V ((Av G L).below (t.mono p)) (I N (by simp[L])) (ax p t.size))
    by_cases F:c=1
    ·have T:a=[]:=bB (by simp at S;omega);subst T F;exact A3 M (n+1) _ _ _ _ _ _ e q po w d.1.2.2 J _ _ g f (by omega) (by rw[i]at m;simpa using m) (by simpa using E) k (C _ 0 (ag rfl))
    ·exact yE M (n+1) _ _ _ _ _ _ e q po (d::a).length c w d.1.2.2 J _ _ g f (by omega) (by simp only[aZ];omega) (by simp only[aZ];omega) (by simp only[aZ];omega) (by omega) F (by omega) (by rw[i]at m;simpa using m) (by simpa using E) k (C _ (c-1) G)
   ·have g:sT M (n+1) e (d::a)=none:=by simp[sT,bN,i]
    exact yD M (n+1) _ _ _ _ _ _ e q po (d::a).length c w _ g f (by simp only[aZ];omega) (by simp only[aZ];omega) (by omega) d.1.1 (by simpa using m) (by simpa using i) k
 replace f:=nV f;have g:sT M n e a=none:=by simp[sT,A,f]
 exact yF M n _ _ _ _ _ _ e D a.length c w _ g f k
abbrev tF(M:Nat)(o:Option (List (Bh (M+1))))(w:World)(e:Ending)(w':World):Prop:=kN 2 (oR (M+1)) (oP (M+1)) (jt (M+1)) (xA (M+1)) o w e w'
theorem AY{M:Nat}{o:Option (List (Bh (M+1)))}{w w':World}(b:o=none)(a:ai w w'):tF M o w (.returned (.tuple #[.slice none 0 0,.bool false])) w':=by
 subst b;exact⟨[],none,0,false,rfl,a,rfl,⟨aj _,aF _⟩,ag rfl,ag rfl,λd c=>by cases c⟩
theorem vz(M _n:Nat)(k r:Int)(s:ByteArray)(xa:Option Addr)(u xc:Nat)(t:ByteArray)(a:Option Addr)(len c:Nat)(w:World)(o:Option (List (Bh (M+1))))(b:Bool)(H:(t.toList==[99,111,100,101])=b)(p:Hid (b=false->o=none))(m:Hid (∀w1,ai w w1->ak 90 #[.agg #[ab k,ab r,ae s,.slice xa u xc]] w1 λe w'=>e=.returned (.tuple #[ae t,.slice a len c])/\ai w1 w'))(j:Hid (b=true->∀w1,ai w w1->ak 91 #[.slice a len c,.func (Fn.func 92) #[] #[]] w1 (tF M o w1))):ak 60 #[.agg #[ab k,ab r,ae s,.slice xa u xc]] w (tF M o w):=by
 cases b
 ·have HB:Hid (o=none):=p.out rfl;go_enter Tryz.func60,Tryz.ntmps60;go_wp2_with fail;refine(m.out _ (by go_grown)).mono ?_;rintro e w1 ⟨rfl,f⟩;have d:Hid (ai w w1):=aK.trans (f.mono (by simp));clear f;go_wp2_with fail;exact ar (v:=.tuple #[.slice none 0 0,.bool false]) (by simp[results,Tryz.results60,go_sem]) rfl (AY HB.out d.out)
 ·have x:=ao (j.out rfl);clear j p;go_enter Tryz.func60,Tryz.ntmps60;go_wp2_with fail;refine(m.out _ (by go_grown)).mono ?_;rintro e w1 ⟨rfl,f⟩;have d:Hid (ai w w1):=aK.trans (f.mono (by simp));clear f;go_wp2_with fail;refine(x.out _ d.out).mono ?_;rintro e I ⟨l,h,n,q,rfl,y⟩;obtain⟨g,i⟩:∃g,l.length=g:=⟨_,rfl⟩;rw[i];have z:=ao i;clear i;go_wp2_with fail;refine ar (v:=.tuple #[.slice h g n,.bool q]) (by simp[results,Tryz.results60,go_sem]) rfl ?_;obtain⟨B,C,D,E,F,G⟩:=y.out;exact⟨l,h,n,q,by rw[z.out],d.out.trans (B.mono d.out.size),C,D,E,(cu (dJ _) 2 (oR (M+1)) h).1 _ _ _ (λb A=>ax d.out.size A) F,G⟩
theorem yG(M n:Nat)(A:n<=M+1)(x:Tm n)(B:Nat)(w:World)(j:In B w n x)(i:aA ⟨n,x⟩)(a:B<=w.heap.size):ak 60 #[df n x] w (tF M (AW M n x) w):=by
 cases n with
 | zero=>exact j.elim
 | succ n=>
 obtain⟨f,c,h,z,y,o⟩:=qI n x B w j a;have s:∀l∈bI n x,aA ⟨n,l⟩:=λl t=>dW i t;have r:(bI n x).length<=8:=wG i;have e:si (eP n x) nd=((eP n x).toList==[99,111,100,101]):=mI _ [99,111,100,101];refine vz M n _ _ _ _ _ _ (eP n x) f (bI n x).length c w (AW M (n+1) x) _ rfl (λd=>?_) o (λd u b=>?_)
 ·simp only[AW,e,d];rfl
 ·have p:AW M (n+1) x=cC (yv M n) (bI n x):=by simp only[AW,e,d];rfl
  rw[p]
  exact pL M n (bI n x) (bI n x).length rfl r f c B u (h.below (b.mono a)) (ax a b.size) (λm k v q=>by
   have g:=b.trans (q.mono b.size)
   exact A1 M n (by omega) m B v ((Av h k).below (g.mono a)) (s m k) (ax a g.size))
theorem zV{s:ByteArray}(b:s.toList.isEmpty=true):s=.empty:=by
 apply tN;have a:ByteArray.empty.toList=[]:=by rw[b8];rfl
 rw[a];simpa using b
theorem wM{n:Nat}{x:Tm (n+1)}(f:aA ⟨n+1,x⟩)(c:x.1.1=4):x.1=(4,0,.empty):=by
 have a:=f (bu n x) (by simp[av,bu]);unfold cq at a;have b:(bu n x).1.1=4:=c;rw[if_neg (by rw[b];omega),if_neg (by rw[b];omega),if_neg (by rw[b];omega),if_pos b]at a;simp only[aB,bV]at a;have d:x.1.2.2=.empty:=zV a.1.1.1;have e:x.1.2.1=0:=a.1.1.2;exact ia c (ia e d)
theorem pN{n:Nat}{x:Tm (n+1)}(g:aA ⟨n+1,x⟩)(d:x.1.1=2):x.1=(2,0,x.1.2.2)/\x.2.2=[]/\dE x.1.2.2=true:=by
 have b:=g (bu n x) (by simp[av,bu]);unfold cq at b;have c:(bu n x).1.1=2:=d;rw[if_neg (by rw[c];omega),if_pos c]at b;simp only[aB,g9,bV]at b;obtain⟨⟨f,e⟩,a⟩:=b;refine⟨ia d (ia e rfl),?_,f⟩;rcases a with a|a
 ·rw[c]at a;omega
 ·have h:¬(0:Int)<(x.2.2.length:Int):=by simpa [bu]using a
  exact bB (by omega)
theorem wN{n:Nat}{x:Tm (n+1)}(g:aA ⟨n+1,x⟩)(d:x.1.1=5):x.1=(5,x.1.2.1,.empty)/\x.2.2=[]/\0<=x.1.2.1/\x.1.2.1<=3:=by
 have c:=g (bu n x) (by simp[av,bu]);unfold cq at c;have a:(bu n x).1.1=5:=d;rw[if_neg (by rw[a];omega),if_neg (by rw[a];omega),if_neg (by rw[a];omega),if_neg (by rw[a];omega),if_pos a]at c;simp only[aB,g9,bV,pY,bX]at c;obtain⟨⟨f,e⟩,b⟩:=c;refine⟨ia d (ia rfl (zV f)),?_,e⟩;rcases b with b|b
 ·rw[a]at b;omega
 ·have h:¬(0:Int)<(x.2.2.length:Int):=by simpa [bu]using b
  exact bB (by omega)
theorem rk{n:Nat}{x:Tm (n+1)}(d:aA ⟨n+1,x⟩)(b:x.1.1=2)(N:Nat):aw (N+1) (aW x.1.2.2 N) (n+1) x=true:=by
 obtain⟨a,c,_⟩:=pN d b;refine cX a.symm ?_;rw[c];rfl
theorem JX{n:Nat}{x:Tm (n+1)}(d:aA ⟨n+1,x⟩)(c:x.1.1=5)(N:Nat):aw (N+1) (bJ 5 x.1.2.1 N) (n+1) x=true:=by
 obtain⟨a,b,_⟩:=wN d c;refine cX a.symm ?_;rw[b];rfl
theorem gz{n:Nat}{x:Tm (n+1)}(j:aA ⟨n+1,x⟩){f:ByteArray}(o:si (eP n x) f=true)(b:f.toList≠[]):x.1=(4,0,.empty)/\∃i,x.2.2=i::bI n x/\∀N,aw (N+1) (aW f N) n i=true:=by
 have g:ByteArray.empty.toList=[]:=by rw[b8];rfl
 have a:eP n x=f:=tN o;unfold eP at a;by_cases e:x.1.1=4
 ·rw[if_pos e]at a;refine⟨wM j e,?_⟩;obtain⟨⟨k,r,q⟩,⟨p,c⟩,l⟩:=x;simp only at e a;subst e;cases l with
  | nil=>
   simp at a;rw[<-a,g]at b;exact(b rfl).elim
  | cons d l=>
   simp only[cI]at a;cases n with
   | zero=>
    simp[bN]at a;rw[<-a,g]at b;exact(b rfl).elim
   | succ n=>
    by_cases h:d.1.1=2
    ·refine⟨d,by simp[bI,bN,h],λN=>?_⟩;have m:f=d.1.2.2:=by
      rw[if_pos (show bN ⟨n+1,d⟩=2 from h)]at a;exact a.symm
     rw[m];exact rk (aR (n+1) _ d j (by simp)) h N
    ·rw[if_neg (show¬bN ⟨n+1,d⟩=2 from h)]at a;rw[<-a,g]at b;exact(b rfl).elim
 ·rw[if_neg e]at a;rw[<-a,g]at b;exact(b rfl).elim
theorem mT(l:List UInt8)(a:l≠[]):(⟨l.toArray⟩:ByteArray).toList≠[]:=by rw[jJ];exact a
theorem lN{M n:Nat}(a:n<=M+1){y:Tm n}(b:aA ⟨n,y⟩):aw (M+1) (aN (M+1) n y) n y=true:=lJ (M+1) n a y (fl n y b)
theorem IV{b:Type}{l:List b}{a:b}(c:l.length=1)(d:l[0]?=some a):l=[a]:=by
 match l,c with
 | [x],_=>simpa using d
theorem IW{e:Type}{l:List e}{a b:e}(f:l.length=2)(c:l[0]?=some a)(d:l[1]?=some b):l=[a,b]:=by
 match l,f with
 | [x,y],_=>
  simp at c d;rw[c,d]
theorem CF{g:Type}{l:List g}{a b c:g}(h:l.length=3)(d:l[0]?=some a)(e:l[1]?=some b)(f:l[2]?=some c):l=[a,b,c]:=by
 match l,h with
 | [x,y,z],_=>
  simp at d e f;rw[d,e,f]
theorem FG{i:Type}{l:List i}{a b c d:i}(j:l.length=4)(e:l[0]?=some a)(f:l[1]?=some b)(g:l[2]?=some c)(h:l[3]?=some d):l=[a,b,c,d]:=by
 match l,j with
 | [x,y,z,t],_=>
  simp at e f g h;rw[e,f,g,h]
theorem Jk(M:Nat):(n:Nat)->n<=M+1->(x:Tm n)->aA ⟨n,x⟩->(a:Ac (M+1))->rK M n x=some a->aw (M+2) (bY M a) n x=true/\nh (M+1) a=true
 | 0,_,_,hr,_,_=>(cZ hr).elim
 | n+1,hn,x,hr,a,h=>by
  have e:∀y∈bI n x,aA ⟨n,y⟩:=λy E=>dW hr E;have w:eF (M+1) (zT M)=true:=by
   have t:ByteArray.empty.toList=[]:=by rw[b8];rfl
   simp[eF,fX,bu,zT,t]
  have u:vx .empty 0=true:=by
   have t:ByteArray.empty.toList=[]:=by rw[b8];rfl
   simp[vx,t]
  have get:∀(d:List (Tm n))(s:Nat),s<d.length->∃y,d[s]?=some y/\y∈d:=λd s z=>⟨d[s],aE z,je z⟩;simp only[rK,jp]at h;split at h
  ·rename_i b;simp only[aB,bX]at b;obtain⟨k,j,l,m⟩:=gz hr b.1 (mT [115,101,110,100] (by simp));obtain⟨c,f,p⟩:=get _ 0 (by rw[b.2];omega);obtain⟨d,q,v⟩:=get _ 1 (by rw[b.2];omega);rw[f,q]at h;have i:a=(1,(aN (M+1) n c,aN (M+1) n d),(.empty,0)):=by simpa using h.symm
   have o:bI n x=[c,d]:=IW b.2 f q;subst i;refine⟨cX k.symm ?_,u⟩;rw[l,o];show ay _ [aW lU M,aN (M+1) n c,aN (M+1) n d] [j,c,d]=true;simp only[ay,m M,lN (M:=M) (by omega) (e c p),lN (M:=M) (by omega) (e d v),g8]
  split at h
  ·rename_i b;simp only[aB,bX]at b;obtain⟨k,j,l,m⟩:=gz hr b.1 (mT [115,112,97,119,110] (by simp));obtain⟨c,f,p⟩:=get _ 0 (by rw[b.2];omega);obtain⟨d,q,v⟩:=get _ 1 (by rw[b.2];omega);obtain⟨g,B,A⟩:=get _ 2 (by rw[b.2];omega);rw[f,q,B]at h;simp only[dn,yx]at h;split at h
   ·rename_i r;have i:a=(2,(zT M,aN (M+1) n d),(wi n c,oS n g)):=by simpa using h.symm
    have o:bI n x=[c,d,g]:=CF b.2 f q B;subst i;cases n with
    | zero=>exact(cZ (e c p)).elim
    | succ n=>
    have D:=wN (e g A) r.2;have C:=pN (e c p) r.1;refine⟨cX k.symm ?_,?_⟩
    ·rw[l,o];show ay _ [aW iF M,aW c.1.2.2 M,aN (M+1) (n+1) d,bJ 5 g.1.2.1 M] [j,c,d,g]=true;simp only[ay,m M,lN (M:=M) (by omega) (e d v),rk (e c p) r.1 M,JX (e g A) r.2 M,g8]
    ·show (eF (M+1) (zT M) && dE c.1.2.2 && decide (0<=g.1.2.1) && decide (g.1.2.1<4))=true;rw[w,C.2.2,gj D.2.2.1,gj (by omega)];rfl
   ·cases h
  split at h
  ·rename_i b;simp only[aB,bX]at b;obtain⟨k,j,l,m⟩:=gz hr b.1 (mT [108,105,110,107] (by simp));obtain⟨c,f,p⟩:=get _ 0 (by rw[b.2];omega);rw[f]at h;have i:a=(3,(aN (M+1) n c,zT M),(.empty,0)):=by simpa using h.symm
   have o:bI n x=[c]:=IV b.2 f;subst i;refine⟨cX k.symm ?_,?_⟩
   ·rw[l,o];show ay _ [aW lT M,aN (M+1) n c] [j,c]=true;simp only[ay,m M,lN (M:=M) (by omega) (e c p),g8]
   ·show (eF (M+1) (zT M) && vx .empty 0)=true;rw[w,u];rfl
  split at h
  ·rename_i b;simp only[aB,bX]at b;obtain⟨k,j,l,m⟩:=gz hr b.1 (mT [115,116,111,112] (by simp));have i:a=(4,(zT M,zT M),(.empty,0)):=by simpa using h.symm
   have o:bI n x=[]:=bB b.2;subst i;refine⟨cX k.symm ?_,?_⟩
   ·rw[l,o];show ay _ [aW ld M] [j]=true;simp only[ay,m M,g8]
   ·show (eF (M+1) (zT M) && eF (M+1) (zT M) && vx .empty 0)=true;rw[w,u];rfl
  ·cases h
theorem oX{b:Type}{f g:b->Bool}:{l:List b}->(∀x∈l,f x=g x)->l.all f=l.all g
 | [],_=>rfl
 | a::l,h=>by
  simp only[iK,h a (by simp),oX (l:=l) λx c=>h x (by simp[c])]
theorem nS{d:Type}{n N:Nat}{f:Tm n->Option d}{g:d->Tm N}{B:d->Bool}(e:∀x a,aA ⟨n,x⟩->f x=some a->aw N (g a) n x=true/\B a=true):(p:List (Tm n))->(∀y∈p,aA ⟨n,y⟩)->(l:List d)->cC f p=some l->ay (λa b=>aw N a n b) (l.map g) p=true/\l.all B=true/\l.length=p.length
 | [],_,l,c=>by
  simp[cC]at c;subst c;exact⟨rfl,rfl,rfl⟩
 | y::p,hr,l,c=>by
  simp only[cC]at c;obtain⟨a,k,c⟩:=br.1 c;obtain⟨r,m,rfl⟩:=cd.1 c;obtain⟨h,i,j⟩:=nS e p (λt o=>hr t (by simp[o])) r m;obtain⟨q,s⟩:=e y a (hr y (by simp)) k;refine⟨?_,by simp[s,i],by simp[j]⟩;simp only[aI,ay,q,h,g8]
theorem pF{N M n:Nat}(c:n<=M+1)(b:M+1<=N){y:Tm n}(d:aA ⟨n,y⟩):aw N (aN N (M+1) (aN (M+1) n y)) n y=true:=by
 have a:=lN c d;exact bD _ _ _ _ _ _ (lJ N (M+1) b _ (wR a)) a
theorem Jm(M:Nat):(n:Nat)->n<=M+1->(x:Tm n)->aA ⟨n,x⟩->(c:Cl (M+1))->yw M n x=some c->aw (M+4) (du M c) n x=true/\sO (M+1) c=true
 | 0,_,_,hr,_,_=>(cZ hr).elim
 | n+1,hn,x,hr,c,h=>by
  have d:∀y∈bI n x,aA ⟨n,y⟩:=λy e=>dW hr e;have get:∀(q:List (Tm n))(i:Nat),i<q.length->∃y,q[i]?=some y/\y∈q:=λq i j=>⟨q[i],aE j,je j⟩;simp only[yw,rL]at h;split at h
  ·rename_i b;simp only[aB,bX]at b;obtain⟨z,w,A,C⟩:=gz hr b.1 (mT [111,110] (by simp));obtain⟨p,k,m⟩:=get _ 0 (by rw[b.2];omega);obtain⟨q,o,I⟩:=get _ 1 (by rw[b.2];omega);obtain⟨r,u,f⟩:=get _ 2 (by rw[b.2];omega);obtain⟨t,v,J⟩:=get _ 3 (by rw[b.2];omega);rw[k,o,u,v]at h;simp only[dn]at h;split at h
   ·rename_i F;obtain⟨l,G,rfl⟩:=cd.1 h;have H:bI n x=[p,q,r,t]:=FG b.2 k o u v;cases n with
    | zero=>exact(cZ (d p m)).elim
    | succ n=>
    have s:r.1.1=4:=F;obtain⟨K,L,P⟩:=nS (g:=bY M) (B:=nh (M+1)) (λy a e E=>Jk M n (by omega) y e a E) r.2.2 (λy e=>aR n r y (d r f) e) l G;have O:=lP (d r f) s;refine⟨cX z.symm ?_,?_⟩
    ·rw[A,H];show ay _ [aW Kj (M+2),aN (M+3) (M+1) (aN (M+1) (n+1) p),aN (M+3) (M+1) (aN (M+1) (n+1) q),cU (M+2) (l.map (bY M)),aN (M+3) (M+1) (aN (M+1) (n+1) t)] [w,p,q,r,t]=true;have D:aw (M+3) (cU (M+2) (l.map (bY M))) (n+1) r=true:=cX (wM (d r f) s).symm K;simp only[ay,C (M+2),pF (N:=M+3) (M:=M) (by omega) (by omega) (d p m),pF (N:=M+3) (M:=M) (by omega) (by omega) (d q I),pF (N:=M+3) (M:=M) (by omega) (by omega) (d t J),D,g8]
    ·show (decide ((l.length:Int)<=8) && l.all (nh (M+1)))=true;rw[L,gj (by omega)];rfl
   ·cases h
  ·cases h
theorem Jl(M:Nat):(n:Nat)->n<=M+1->(x:Tm n)->aA ⟨n,x⟩->(b:Bh (M+1))->yv M n x=some b->aw (M+5) (dC M b) n x=true/\(dE b.1 && decide ((b.2.2.length:Int)<=6) && b.2.2.all (sO (M+1)))=true
 | 0,_,_,hr,_,_=>(cZ hr).elim
 | n+1,hn,x,hr,b,a=>by
  have e:∀y∈bI n x,aA ⟨n,y⟩:=λy d=>dW hr d;simp only[yv,sT]at a;split at a
  ·rename_i u;obtain⟨h,r,i,s⟩:=gz hr u (mT [98,101,104] (by simp));obtain⟨p,m,a⟩:=br.1 a;split at a
   ·rename_i k;obtain⟨l,v,rfl⟩:=cd.1 a;have z:x.1.1=4:=by rw[h]
    have j:=lP hr z;generalize bI n x=f at*;cases f with
    | nil=>simp at m
    | cons c f=>
    have q:c=p:=by simpa using m
    subst q;cases n with
    | zero=>exact(cZ (e c (by simp))).elim
    | succ n=>
    have w:=pN (e c (by simp)) k;obtain⟨A,C,D⟩:=nS (g:=du M) (B:=sO (M+1)) (λy o d t=>Jm M (n+1) (by omega) y d o t) f (λy d=>e y (by simp[d])) l v;rw[i]at j;simp only[aZ]at j;refine⟨cX h.symm ?_,?_⟩
    ·rw[i];show ay _ (aW te (M+3)::aW c.1.2.2 (M+3)::l.map (du M)) (r::c::f)=true;simp only[ay,s (M+3),rk (e c (by simp)) k (M+3),A,g8]
    ·show (dE c.1.2.2 && decide ((l.length:Int)<=6) && l.all (sO (M+1)))=true;rw[w.2.2,C,gj (by omega)];rfl
   ·cases a
  ·cases a
theorem AX(M:Nat):(n:Nat)->n<=M+1->(x:Tm n)->aA ⟨n,x⟩->(l:List (Bh (M+1)))->AW M n x=some l->aw (M+6) (bW M l) n x=true/\jP (M+1) l=(decide (1<=(l.length:Int)) && l.all λb=>decide (1<=(b.2.2.length:Int)))
 | 0,_,_,hr,_,_=>(cZ hr).elim
 | n+1,hn,x,hr,l,h=>by
  have r:∀y∈bI n x,aA ⟨n,y⟩:=λy c=>dW hr c;simp only[AW]at h;split at h
  ·rename_i a;obtain⟨d,o,e,p⟩:=gz hr a (mT [99,111,100,101] (by simp));have s:x.1.1=4:=by rw[d]
   have f:=lP hr s;obtain⟨t,i,u⟩:=nS (g:=dC M) (B:=λb=>dE b.1 && decide ((b.2.2.length:Int)<=6) && b.2.2.all (sO (M+1))) (λy j c q=>Jl M n (by omega) y c j q) (bI n x) r l h;rw[e]at f;simp only[aZ]at f;refine⟨cX d.symm ?_,?_⟩
   ·rw[e];show ay _ (aW nd (M+4)::l.map (dC M)) (o::bI n x)=true;simp only[ay,p (M+4),t,g8]
   ·have k:decide ((l.length:Int)<=7)=true:=gj (by omega);have m:l.all (vt (M+1))=l.all λb=>decide (1<=(b.2.2.length:Int)):=by
     rw[b9]at i;refine oX λb a=>?_;have:=i b a;simp only[aB]at this;simp only[vt,this.1.1,this.1.2,this.2,dZ,Bool.and_true]
    simp only[jP,k,m,Bool.and_true]
  ·cases h
end Go.Proofs.YtckamaoibonjcaaGreat
