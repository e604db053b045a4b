/- What is proved here: plain facts and contracts that the claimed theorem stands on. No condition but those that each names. -/
import Derived.Test.YtckamaoibonjcaaGreatG36
namespace Go.Proofs.YtckamaoibonjcaaGreat
open Go.RowKit
set_option maxHeartbeats 2000000
set_option maxRecDepth 100000
abbrev iM(M:Nat)(o:Option (Cl (M+1)))(w:World)(e:Ending)(w':World):Prop:=pZ (eE (M+1)) (gE (M+1)) (ju (M+1)) (BF (M+1)) o w e w'
def Oo(M:Nat):Cl (M+1):=((zT M,zT M,zT M),(none,0),[])
theorem lf{M:Nat}{o:Option (Cl (M+1))}{w w':World}(b:o=none)(a:ag w w'):iM M o w (.returned (.tuple #[.agg #[.int .i64 0,.int .i64 0,.string .empty,.slice none 0 0,.int .i64 0,.int .i64 0,.string .empty,.slice none 0 0,.slice none 0 0,.int .i64 0,.int .i64 0,.string .empty,.slice none 0 0],.bool false])) w':=by
 subst b;exact⟨Oo M,false,rfl,a,rfl,⟨⟨kF _ _ _,kF _ _ _,kF _ _ _⟩,⟨ai _,aB _⟩,ae rfl⟩,⟨⟨ae rfl,ae rfl,ae rfl⟩,ae rfl⟩,λd c=>by cases c⟩
theorem lN{n:Nat}{m:Tm (n+1)}(c:av ⟨n+1,m⟩)(d:m.1.1=4):m.2.2.length<=8:=by
 have b:=c (bu n m) (by simp[ar,bu]);unfold cm at b;have a:(bu n m).1.1=4:=d;rw[if_neg (by rw[a];omega),if_neg (by rw[a];omega),if_neg (by rw[a];omega),if_pos a]at b;simp only[ay,bT]at b;have e:(m.2.2.length:Int)<=8:=b.1.2;omega
theorem sW{w:World}{q:Nat}{c0 b f g h i k l m n c d e:Value}{t:TypeId}(a:w.heap[q]?=some (.cells #[c0,b,f,g,h,i,k,l,m,n,c,d,e] t)):(w.cell? ⟨q,0,none⟩=some c0/\w.cell? ⟨q,1,none⟩=some b/\w.cell? ⟨q,2,none⟩=some f/\w.cell? ⟨q,3,none⟩=some g/\w.cell? ⟨q,4,none⟩=some h/\w.cell? ⟨q,5,none⟩=some i/\w.cell? ⟨q,6,none⟩=some k/\w.cell? ⟨q,7,none⟩=some l/\w.cell? ⟨q,8,none⟩=some m/\w.cell? ⟨q,9,none⟩=some n/\w.cell? ⟨q,10,none⟩=some c/\w.cell? ⟨q,11,none⟩=some d/\w.cell? ⟨q,12,none⟩=some e)/\(∀j,w.frozen? ⟨q,j,none⟩=false)/\q<w.heap.size:=
 ⟨⟨ao a 0,ao a 1,ao a 2,ao a 3,ao a 4,ao a 5,ao a 6,ao a 7,ao a 8,ao a 9,ao a 10,ao a 11,ao a 12⟩,λj=>cI a j,(aA.1 a).1⟩
theorem sM(M _n:Nat)(k h:Int)(s:ByteArray)(xa:Option Addr)(j xc:Nat)(i:ByteArray)(a:Option Addr)(len c:Nat)(w:World)(o:Option (Cl (M+1)))(D:Hid (o=none))(F:(i.toList==[111,110])=false)(b:Hid (∀w1,ag w w1->ah 90 #[.agg #[.int .i64 k,.int .i64 h,.string s,.slice xa j xc]] w1 λe w'=>e=.returned (.tuple #[.string i,.slice a len c])/\ag w1 w')):ah 126 #[.agg #[.int .i64 k,.int .i64 h,.string s,.slice xa j xc]] w (iM M o w):=by
 go_enter Tryz.func126,Tryz.ntmps126;go_wp2_with fail;refine(b.out _ (by go_grown)).mono ?_;rintro e w1 ⟨rfl,d⟩;obtain⟨E,g,f,I⟩:=dV d;have l:=aj f;have m:=aj g;clear d E g f b;obtain⟨⟨n,d1,t,u,x,y,z,A,B,C,p,q,r⟩,G,H⟩:=sW m.out;go_wp2_with fail;exact ap (v:=.tuple #[.agg #[.int .i64 0,.int .i64 0,.string .empty,.slice none 0 0,.int .i64 0,.int .i64 0,.string .empty,.slice none 0 0,.slice none 0 0,.int .i64 0,.int .i64 0,.string .empty,.slice none 0 0],.bool false]) (by simp[results,Tryz.results126,go_sem,n,d1,t,u,x,y,z,A,B,C,p,q,r];rfl) rfl (lf D.out ((qs _ _ _ _ _ _ _ _ _ _ _ _ _ _ _).below l.out (by omega)))
theorem uD(M _n:Nat)(k h:Int)(s:ByteArray)(xa:Option Addr)(j xc:Nat)(i:ByteArray)(a:Option Addr)(len c:Nat)(w:World)(o:Option (Cl (M+1)))(D:Hid (o=none))(F:(i.toList==[111,110])=true)(_hl:((len:Int)==4)=false)(H:((len:Int) !=4)=true)(b:Hid (∀w1,ag w w1->ah 90 #[.agg #[.int .i64 k,.int .i64 h,.string s,.slice xa j xc]] w1 λe w'=>e=.returned (.tuple #[.string i,.slice a len c])/\ag w1 w')):ah 126 #[.agg #[.int .i64 k,.int .i64 h,.string s,.slice xa j xc]] w (iM M o w):=by
 go_enter Tryz.func126,Tryz.ntmps126;go_wp2_with fail;refine(b.out _ (by go_grown)).mono ?_;rintro e w1 ⟨rfl,d⟩;obtain⟨E,g,f,J⟩:=dV d;have l:=aj f;have m:=aj g;clear d E g f b;obtain⟨⟨n,d1,t,u,x,y,z,A,B,C,p,q,r⟩,G,I⟩:=sW m.out;go_wp2_with fail;exact ap (v:=.tuple #[.agg #[.int .i64 0,.int .i64 0,.string .empty,.slice none 0 0,.int .i64 0,.int .i64 0,.string .empty,.slice none 0 0,.slice none 0 0,.int .i64 0,.int .i64 0,.string .empty,.slice none 0 0],.bool false]) (by simp[results,Tryz.results126,go_sem,n,d1,t,u,x,y,z,A,B,C,p,q,r];rfl) rfl (lf D.out ((qs _ _ _ _ _ _ _ _ _ _ _ _ _ _ _).below l.out (by omega)))
theorem sK(M _n:Nat)(k l:Int)(s:ByteArray)(xa:Option Addr)(n xc:Nat)(m:ByteArray)(a po c:Nat)(w:World)(o:Option (Cl (M+1)))(F:Hid (o=none))(I:(m.toList==[111,110])=true)(G:a<w.heap.size)(j:Int)(f:w.cell? ⟨a,po+8,none⟩=some (.int .i64 j))(K:(j !=4)=true)(d:Hid (∀w1,ag w w1->ah 90 #[.agg #[.int .i64 k,.int .i64 l,.string s,.slice xa n xc]] w1 λe w'=>e=.returned (.tuple #[.string m,.slice (some ⟨a,po,none⟩) 4 c])/\ag w1 w')):ah 126 #[.agg #[.int .i64 k,.int .i64 l,.string s,.slice xa n xc]] w (iM M o w):=by
 go_enter Tryz.func126,Tryz.ntmps126;go_wp2_with fail;refine(d.out _ (by go_grown)).mono ?_;rintro e w1 ⟨rfl,g⟩;obtain⟨H,i,h,O⟩:=dV g;have b:=aj h;have p:=aj i;clear g H i h d;replace f:=(am b.out _ _ G).trans f;have L:a<w1.heap.size:=by omega
 obtain⟨⟨q,d1,x,y,z,A,B,C,D,E,r,t,u⟩,J,N⟩:=sW p.out;go_wp2_with fail;exact ap (v:=.tuple #[.agg #[.int .i64 0,.int .i64 0,.string .empty,.slice none 0 0,.int .i64 0,.int .i64 0,.string .empty,.slice none 0 0,.slice none 0 0,.int .i64 0,.int .i64 0,.string .empty,.slice none 0 0],.bool false]) (by simp[results,Tryz.results126,go_sem,q,d1,x,y,z,A,B,C,D,E,r,t,u];rfl) rfl (lf F.out ((qs _ _ _ _ _ _ _ _ _ _ _ _ _ _ _).below b.out (by omega)))
theorem Ld{n g a po:Nat}{w w':World}{y x t:Tm (n+1)}(d:a<g)(c:bA g w w')(k:(w.cell? ⟨a,po,none⟩=some (.int .i64 y.1.1)/\w.cell? ⟨a,po+1,none⟩=some (.int .i64 y.1.2.1)/\w.cell? ⟨a,po+2,none⟩=some (.string y.1.2.2)/\w.cell? ⟨a,po+3,none⟩=some (.slice y.2.1.1 y.2.2.length y.2.1.2))/\(w.cell? ⟨a,po+4,none⟩=some (.int .i64 x.1.1)/\w.cell? ⟨a,po+5,none⟩=some (.int .i64 x.1.2.1)/\w.cell? ⟨a,po+6,none⟩=some (.string x.1.2.2)/\w.cell? ⟨a,po+7,none⟩=some (.slice x.2.1.1 x.2.2.length x.2.1.2))/\(w.cell? ⟨a,po+12,none⟩=some (.int .i64 t.1.1)/\w.cell? ⟨a,po+13,none⟩=some (.int .i64 t.1.2.1)/\w.cell? ⟨a,po+14,none⟩=some (.string t.1.2.2)/\w.cell? ⟨a,po+15,none⟩=some (.slice t.2.1.1 t.2.2.length t.2.1.2))):(w'.cell? ⟨a,po,none⟩=some (.int .i64 y.1.1)/\w'.cell? ⟨a,po+1,none⟩=some (.int .i64 y.1.2.1)/\w'.cell? ⟨a,po+2,none⟩=some (.string y.1.2.2)/\w'.cell? ⟨a,po+3,none⟩=some (.slice y.2.1.1 y.2.2.length y.2.1.2))/\(w'.cell? ⟨a,po+4,none⟩=some (.int .i64 x.1.1)/\w'.cell? ⟨a,po+5,none⟩=some (.int .i64 x.1.2.1)/\w'.cell? ⟨a,po+6,none⟩=some (.string x.1.2.2)/\w'.cell? ⟨a,po+7,none⟩=some (.slice x.2.1.1 x.2.2.length x.2.1.2))/\(w'.cell? ⟨a,po+12,none⟩=some (.int .i64 t.1.1)/\w'.cell? ⟨a,po+13,none⟩=some (.int .i64 t.1.2.1)/\w'.cell? ⟨a,po+14,none⟩=some (.string t.1.2.2)/\w'.cell? ⟨a,po+15,none⟩=some (.slice t.2.1.1 t.2.2.length t.2.1.2)):=by
 have b:=λo=>fJ c (show a≠g by omega) o;exact⟨⟨(b _).trans k.1.1,(b _).trans k.1.2.1,(b _).trans k.1.2.2.1,(b _).trans k.1.2.2.2⟩,⟨(b _).trans k.2.1.1,(b _).trans k.2.1.2.1,(b _).trans k.2.1.2.2.1,(b _).trans k.2.1.2.2.2⟩,(b _).trans k.2.2.1,(b _).trans k.2.2.2.1,(b _).trans k.2.2.2.2.1,(b _).trans k.2.2.2.2.2⟩
theorem sL(M n:Nat)(k aM:Int)(s:ByteArray)(xa:Option Addr)(aQ xc:Nat)(aP:ByteArray)(d po c:Nat)(w:World)(y x m t:Tm (n+1))(ae:n+1<=M+1)(an:Option (List (Ac (M+1))))(o:Option (Cl (M+1)))(aE:Hid (o=an.map λl=>((aK (M+1) (n+1) y,aK (M+1) (n+1) x,aK (M+1) (n+1) t),(none,0),l)))(bq:(aP.toList==[111,110])=true)(h:d<w.heap.size)(Q:w.cell? ⟨d,po,none⟩=some (.int .i64 y.1.1))(R:w.cell? ⟨d,po+1,none⟩=some (.int .i64 y.1.2.1))(S:w.cell? ⟨d,po+2,none⟩=some (.string y.1.2.2))(T:w.cell? ⟨d,po+3,none⟩=some (.slice y.2.1.1 y.2.2.length y.2.1.2))(K:w.cell? ⟨d,po+4,none⟩=some (.int .i64 x.1.1))(L:w.cell? ⟨d,po+5,none⟩=some (.int .i64 x.1.2.1))(N:w.cell? ⟨d,po+6,none⟩=some (.string x.1.2.2))(O:w.cell? ⟨d,po+7,none⟩=some (.slice x.2.1.1 x.2.2.length x.2.1.2))(X:w.cell? ⟨d,po+8,none⟩=some (.int .i64 m.1.1))(af:w.cell? ⟨d,po+9,none⟩=some (.int .i64 m.1.2.1))(ai:w.cell? ⟨d,po+10,none⟩=some (.string m.1.2.2))(al:w.cell? ⟨d,po+11,none⟩=some (.slice m.2.1.1 m.2.2.length m.2.1.2))(G:w.cell? ⟨d,po+12,none⟩=some (.int .i64 t.1.1))(H:w.cell? ⟨d,po+13,none⟩=some (.int .i64 t.1.2.1))(I:w.cell? ⟨d,po+14,none⟩=some (.string t.1.2.2))(J:w.cell? ⟨d,po+15,none⟩=some (.slice t.2.1.1 t.2.2.length t.2.1.2))(bf:m.1.1=4)(ay:Hid (∀w1,ag w w1->ah 90 #[.agg #[.int .i64 k,.int .i64 aM,.string s,.slice xa aQ xc]] w1 λe w'=>e=.returned (.tuple #[.string aP,.slice (some ⟨d,po,none⟩) 4 c])/\ag w1 w'))(aq:Hid (∀w1,ag w w1->ah 156 #[.slice m.2.1.1 m.2.2.length m.2.1.2,.func (Fn.func 157) #[] #[]] w1 (kJ 11 (fM (M+1)) (gZ (M+1)) (lj (M+1)) (BM (M+1)) an w1)))(ar:Hid (∀w1,ag w w1->ah 54 #[.agg #[.int .i64 y.1.1,.int .i64 y.1.2.1,.string y.1.2.2,.slice y.2.1.1 y.2.2.length y.2.1.2]] w1 λe w'=>∃a:Tm (n+1),e=.returned (.agg #[.int .i64 a.1.1,.int .i64 a.1.2.1,.string a.1.2.2,.slice a.2.1.1 a.2.2.length a.2.1.2])/\Hid (ag w1 w'/\In w'.heap.size w' (n+1) a/\bV (λq=>w1.heap.size<=q) (n+1) a/\au (n+1) a (n+1) y=true)))(av:Hid (∀w1,ag w w1->ah 54 #[.agg #[.int .i64 x.1.1,.int .i64 x.1.2.1,.string x.1.2.2,.slice x.2.1.1 x.2.2.length x.2.1.2]] w1 λe w'=>∃a:Tm (n+1),e=.returned (.agg #[.int .i64 a.1.1,.int .i64 a.1.2.1,.string a.1.2.2,.slice a.2.1.1 a.2.2.length a.2.1.2])/\Hid (ag w1 w'/\In w'.heap.size w' (n+1) a/\bV (λq=>w1.heap.size<=q) (n+1) a/\au (n+1) a (n+1) x=true)))(aw:Hid (∀w1,ag w w1->ah 54 #[.agg #[.int .i64 t.1.1,.int .i64 t.1.2.1,.string t.1.2.2,.slice t.2.1.1 t.2.2.length t.2.1.2]] w1 λe w'=>∃a:Tm (n+1),e=.returned (.agg #[.int .i64 a.1.1,.int .i64 a.1.2.1,.string a.1.2.2,.slice a.2.1.1 a.2.2.length a.2.1.2])/\Hid (ag w1 w'/\In w'.heap.size w' (n+1) a/\bV (λq=>w1.heap.size<=q) (n+1) a/\au (n+1) a (n+1) t=true))):ah 126 #[.agg #[.int .i64 k,.int .i64 aM,.string s,.slice xa aQ xc]] w (iM M o w):=by
 go_enter Tryz.func126,Tryz.ntmps126;go_wp2_with fail;refine(ay.out _ (by go_grown)).mono ?_;rintro e w1 ⟨rfl,aA⟩;obtain⟨bj,aI,aB,bw⟩:=dV aA;have f:=aj aB;have az:=aj aI;clear aA bj aI aB ay;replace Q:=(am f.out _ _ h).trans Q;replace R:=(am f.out _ _ h).trans R;replace S:=(am f.out _ _ h).trans S;replace T:=(am f.out _ _ h).trans T;replace K:=(am f.out _ _ h).trans K;replace L:=(am f.out _ _ h).trans L;replace N:=(am f.out _ _ h).trans N;replace O:=(am f.out _ _ h).trans O;replace X:=(am f.out _ _ h).trans X;replace af:=(am f.out _ _ h).trans af;replace ai:=(am f.out _ _ h).trans ai;replace al:=(am f.out _ _ h).trans al;replace G:=(am f.out _ _ h).trans G;replace H:=(am f.out _ _ h).trans H;replace I:=(am f.out _ _ h).trans I;replace J:=(am f.out _ _ h).trans J;have bh:d<w1.heap.size:=by omega
 rw[bf]at X;go_wp2_with fail;refine(aq.out _ f.out).mono ?_;rintro e u ⟨l,j,r,ao,rfl,ax⟩;have U:=aj ax.out.1;have z:Hid (ag w u):=f.out.trans (U.out.mono f.out.size);have aU:=aj ((U.out.block (w.heap.size+1) (by omega)).trans az.out);have bs:w1.heap.size<=u.heap.size:=U.out.size;have bi:d<u.heap.size:=by omega
 have B:Hid (∀w',ag u w'->(w'.cell? ⟨d,po,none⟩=some (.int .i64 y.1.1)/\w'.cell? ⟨d,po+1,none⟩=some (.int .i64 y.1.2.1)/\w'.cell? ⟨d,po+2,none⟩=some (.string y.1.2.2)/\w'.cell? ⟨d,po+3,none⟩=some (.slice y.2.1.1 y.2.2.length y.2.1.2))/\(w'.cell? ⟨d,po+4,none⟩=some (.int .i64 x.1.1)/\w'.cell? ⟨d,po+5,none⟩=some (.int .i64 x.1.2.1)/\w'.cell? ⟨d,po+6,none⟩=some (.string x.1.2.2)/\w'.cell? ⟨d,po+7,none⟩=some (.slice x.2.1.1 x.2.2.length x.2.1.2))/\(w'.cell? ⟨d,po+12,none⟩=some (.int .i64 t.1.1)/\w'.cell? ⟨d,po+13,none⟩=some (.int .i64 t.1.2.1)/\w'.cell? ⟨d,po+14,none⟩=some (.string t.1.2.2)/\w'.cell? ⟨d,po+15,none⟩=some (.slice t.2.1.1 t.2.2.length t.2.1.2))):=λw' a9=>by
  have i:=λo=>(am a9 d o bi).trans (am U.out d o bh);exact⟨⟨(i _).trans Q,(i _).trans R,(i _).trans S,(i _).trans T⟩,⟨(i _).trans K,(i _).trans L,(i _).trans N,(i _).trans O⟩,(i _).trans G,(i _).trans H,(i _).trans I,(i _).trans J⟩
 obtain⟨W,ad⟩:∃W,l.length=W:=⟨_,rfl⟩;rw[ad];have aT:=aj ad;clear aq az Q R S T K L N O X af ai al G H I J ad;obtain⟨⟨Q,R,S,T⟩,⟨K,L,N,O⟩,G,H,I,J⟩:=B.out u (ak _ _);go_wp2_with fail
 go_region_held3 (λw'=>(w'.cell? ⟨d,po,none⟩=some (.int .i64 y.1.1)/\w'.cell? ⟨d,po+1,none⟩=some (.int .i64 y.1.2.1)/\w'.cell? ⟨d,po+2,none⟩=some (.string y.1.2.2)/\w'.cell? ⟨d,po+3,none⟩=some (.slice y.2.1.1 y.2.2.length y.2.1.2))/\(w'.cell? ⟨d,po+4,none⟩=some (.int .i64 x.1.1)/\w'.cell? ⟨d,po+5,none⟩=some (.int .i64 x.1.2.1)/\w'.cell? ⟨d,po+6,none⟩=some (.string x.1.2.2)/\w'.cell? ⟨d,po+7,none⟩=some (.slice x.2.1.1 x.2.2.length x.2.1.2))/\(w'.cell? ⟨d,po+12,none⟩=some (.int .i64 t.1.1)/\w'.cell? ⟨d,po+13,none⟩=some (.int .i64 t.1.2.1)/\w'.cell? ⟨d,po+14,none⟩=some (.string t.1.2.2)/\w'.cell? ⟨d,po+15,none⟩=some (.slice t.2.1.1 t.2.2.length t.2.1.2))) (first|with_reducible assumption|with_reducible exact B.out _ A.out|with_reducible exact B.out _ F.out|with_reducible exact B.out _ E.out|with_reducible exact aS.out _ (qs _ _ _ _ _ _ _ _ _ _ _ _ _ _ _)|exact B.out _ (ak _ _).drew)
  ((first
   | (go_at_call 54;refine(ar.out _ z.out.drew).mono ?_;rintro e aN ⟨a,rfl,V⟩;have E:=aj (cB V.out.1);clear ar)
   | (go_at_call 54;refine(av.out _ (z.out.trans (E.out.mono z.out.size))).mono ?_;rintro e aO ⟨q,rfl,C⟩;have F:=aj (E.out.trans (C.out.1.mono E.out.size));clear av)
   | (go_at_call 54;refine(aw.out _ (z.out.trans (F.out.mono z.out.size))).mono ?_;rintro e p ⟨g,rfl,D⟩;have A:=aj (F.out.trans (D.out.1.mono F.out.size));clear aw;have aV:=aj ((A.out.block (w.heap.size+1) (by omega)).trans aU.out);obtain⟨⟨aX,d1,a1,a2,a3,a4,a5,a6,a7,a8,aY,aZ,a0⟩,br,bv⟩:=sW aV.out;have aS:=aj (λaW (bc:bA (w.heap.size+1) p aW)=>Ld (y:=y) (x:=x) (t:=t) (show d<w.heap.size+1 by omega) bc (B.out _ A.out)))))
 go_wp2_with fail;have aR:Hid (ag w p):=z.out.trans (A.out.mono z.out.size);have bt:u.heap.size<=aN.heap.size:=E.out.size;have bu:u.heap.size<=aO.heap.size:=F.out.size;have aH:=D.out.1;have aG:=C.out.1.trans (D.out.1.mono C.out.1.size);have Y:=im (M:=M) ae ((V.out.2.1.below aG).mono aG.size) (V.out.2.2.1.mono λq (aF:u.heap.size<=q)=>(show w.heap.size+1<q by omega)) V.out.2.2.2;have Z:=im (M:=M) ae ((C.out.2.1.below aH).mono aH.size) (C.out.2.2.1.mono λq (aF:aN.heap.size<=q)=>(show w.heap.size+1<q by omega)) C.out.2.2.2;have aa:=im (M:=M) ae D.out.2.1 (D.out.2.2.1.mono λq (aF:aO.heap.size<=q)=>(show w.heap.size+1<q by omega)) D.out.2.2.2;refine ap (v:=.tuple #[.agg #[.int .i64 a.1.1,.int .i64 a.1.2.1,.string a.1.2.2,.slice a.2.1.1 a.2.2.length a.2.1.2,.int .i64 q.1.1,.int .i64 q.1.2.1,.string q.1.2.2,.slice q.2.1.1 q.2.2.length q.2.1.2,.slice j W r,.int .i64 g.1.1,.int .i64 g.1.2.1,.string g.1.2.2,.slice g.2.1.1 g.2.2.length g.2.1.2],.bool ao]) (by simp[results,Tryz.results126,go_sem,aX,d1,a1,a2,a3,a4,a5,a6,a7,a8,aY,aZ,a0]) rfl ?_;have e:eE (M+1) ((aK (M+1) (n+1) a,aK (M+1) (n+1) q,aK (M+1) (n+1) g),(j,r),l)=[.int .i64 a.1.1,.int .i64 a.1.2.1,.string a.1.2.2,.slice a.2.1.1 a.2.2.length a.2.1.2,.int .i64 q.1.1,.int .i64 q.1.2.1,.string q.1.2.2,.slice q.2.1.1 q.2.2.length q.2.1.2,.slice j W r,.int .i64 g.1.1,.int .i64 g.1.2.1,.string g.1.2.2,.slice g.2.1.1 g.2.2.length g.2.1.2]:=by
  show gR (M+1) (aK (M+1) (n+1) a)++gR (M+1) (aK (M+1) (n+1) q)++(.slice j l.length r::gR (M+1) (aK (M+1) (n+1) g))=_;rw[fT,fT,fT,aT.out];rfl
 have aL:∀w',bA (w.heap.size+1) p w'->iM M o w (.returned (.tuple #[.agg (eE (M+1) ((aK (M+1) (n+1) a,aK (M+1) (n+1) q,aK (M+1) (n+1) g),(j,r),l)).toArray,.bool ao])) w':=λw' aD=>by
  obtain⟨bx,bk,bl,bm,bn,bo⟩:=ax.out;have ab:=cq (fh (M+1)) 11 (fM (M+1)) j;have bd:pe p.heap.size p 11 (fM (M+1)) (gZ (M+1) p.heap.size p) j l:=ab.mono A.out.size (ab.below A.out bm);have bg:sD (lj (M+1) (λb=>w.heap.size+1<b)) (λb=>w.heap.size+1<b) j l:=ab.1 _ _ _ (λb (ba:w1.heap.size<=b)=>(show w.heap.size+1<b by omega)) bn;have bb:gE (M+1) p.heap.size p ((aK (M+1) (n+1) a,aK (M+1) (n+1) q,aK (M+1) (n+1) g),(j,r),l):=⟨⟨Y.1,Z.1,aa.1⟩,bl,bd⟩;have aC:ju (M+1) (λb=>w.heap.size+1<b) ((aK (M+1) (n+1) a,aK (M+1) (n+1) q,aK (M+1) (n+1) g),(j,r),l):=⟨⟨Y.2.1,Z.2.1,aa.2.1⟩,bg⟩;refine⟨((aK (M+1) (n+1) a,aK (M+1) (n+1) q,aK (M+1) (n+1) g),(j,r),l),ao,rfl,aD.below aR.out (by omega),?_,aD.stays (dS _) (P:=λb=>w.heap.size+1<b) (by omega) aC bb,(dS _).1 _ _ _ (λb (ba:w.heap.size+1<b)=>(show w.heap.size<=b by omega)) aC,λbz aJ=>?_⟩
  ·rw[bk,aE.out];cases an<;>rfl
  ·rw[aE.out]at aJ;obtain⟨bp,be,rfl⟩:=b8.1 aJ;exact⟨⟨Y.2.2,Z.2.2,aa.2.2⟩,bo bp be⟩
 rw[e]at aL;exact aL _ (qs _ _ _ _ _ _ _ _ _ _ _ _ _ _ _)
theorem uC(M n:Nat)(ao:n<=M+1)(x:Tm n)(B:Nat)(w:World)(K:In B w n x)(ab:av ⟨n,x⟩)(g:B<=w.heap.size):ah 126 #[dd n x] w (iM M (yj M n x) w):=by
 cases n with
 | zero=>exact K.elim
 | succ n=>
 obtain⟨G,c,i,an,am,m⟩:=qC n x B w K g;show ah 126 #[.agg #[.int .i64 x.1.1,.int .i64 x.1.2.1,.string x.1.2.2,.slice x.2.1.1 x.2.2.length x.2.1.2]] w (iM M (rG M n (eF n x) (bE n x)) w);have r:∀e∈bE n x,av ⟨n,e⟩:=λe j=>dU ab j;generalize eF n x=b at*;generalize bE n x=d at*;have F:rY b JW=(b.toList==[111,110]):=mD b [111,110];have get:∀k,k<d.length->∃e,d[k]?=some e:=λk v=>⟨d[k],aD v⟩;by_cases f:(b.toList==[111,110])=true
 ·by_cases q:d.length=4
  ·obtain⟨e,j⟩:=get 0 (by omega);obtain⟨u,D⟩:=get 1 (by omega);obtain⟨a,y⟩:=get 2 (by omega);obtain⟨t,C⟩:=get 3 (by omega);have h:rG M n b d=if bK ⟨n,a⟩=4 then (cw (rF M (n-1)) (DE n a)).map λl=>((aK (M+1) n e,aK (M+1) n u,aK (M+1) n t),(none,0),l)else none:=by
    unfold rG;rw[if_pos (by rw[F,f,q];rfl),j,D,y,C];rfl
   rw[q]at m;obtain⟨N,po,rfl⟩:=qu i (by omega);cases n with
   | zero=>exact(qU i j).elim
   | succ n=>
   obtain⟨⟨O,P,Q,R⟩,ae,ap⟩:=gO i j;obtain⟨⟨S,d1,T,U⟩,af,_⟩:=gO i D;obtain⟨⟨L,ag,ai,aj⟩,I,_⟩:=gO i y;obtain⟨⟨V,W,X,Y⟩,ad,_⟩:=gO i C;by_cases o:a.1.1=4
   ·have A:rG M (n+1) b d=(cw (rF M n) a.2.2).map λl=>((aK (M+1) (n+1) e,aK (M+1) (n+1) u,aK (M+1) (n+1) t),(none,0),l):=by
      rw[h,if_pos (show bK ⟨n+1,a⟩=4 from o)];rfl
    have J:=r a (aC y);have aa:a.2.2.length<=8:=by
     exact lN J o
    exact sL M n _ _ _ _ _ _ b N po c w e u a t (by omega) (cw (rF M n) a.2.2) _ A f (by omega) (by simpa using O) (by simpa using P) (by simpa using Q) (by simpa using R) (by simpa using S) (by simpa using d1) (by simpa using T) (by simpa using U) (by simpa using L) (by simpa using ag) (by simpa using ai) (by simpa using aj) (by simpa using V) (by simpa using W) (by simpa using X) (by simpa using Y) o m
     (λak p=>yr M n a.2.2 a.2.2.length rfl aa a.2.1.1 a.2.1.2 B ak ((show fe B w n a.2.2 a.2.1.1 from I.2).below (p.mono g)) (aw g p.size) (λE s al Z=>by
      have H:=p.trans (Z.mono p.size);obtain⟨k,v⟩:=cM s;rcases I.2 with z|⟨_,_,_,_,z⟩
      ·rw[z]at s;cases s
      ·exact AS M n (by omega) E B al ((z k E v).2.below (H.mono g)) (aN n a E J s) (aw g H.size)))
     (lC ae (r e (aC j)) g) (lC af (r u (aC D)) g) (lC ad (r t (aC C)) g)
   ·have A:rG M (n+1) b d=none:=by rw[h,if_neg (show¬bK ⟨n+1,a⟩=4 from o)]
    exact sK M n _ _ _ _ _ _ b N po c w _ A f (by omega) a.1.1 (by simpa using L) (by simpa using o) m
  ·have h:rG M n b d=none:=by simp[rG,q]
   exact uD M n _ _ _ _ _ _ b G d.length c w _ h f (uh q) (by simp;omega) m
 replace f:=nO f;have h:rG M n b d=none:=by simp[rG,F,f]
 exact sM M n _ _ _ _ _ _ b G d.length c w _ h f m
abbrev oR(M:Nat)(o:Option (Bh (M+1)))(w:World)(e:Ending)(w':World):Prop:=pZ (oM (M+1)) (oJ (M+1)) (jt (M+1)) (xk (M+1)) o w e w'
theorem wh{n:Nat}{x:Tm (n+1)}(b:av ⟨n+1,x⟩):(bE n x).length<=8:=by
 unfold bE;split
 ·rename_i a;have:=lN b a;split
  ·split
   ·rw[eC];omega
   ·simp
  ·simp
 ·simp
theorem IE{n:Nat}{a:Tm (n+1)}(d:av ⟨n+1,a⟩)(b:a.1.1=2):a.1.2.2.size<=2048:=by
 have:=d (bu n a) (by simp[ar,bu]);have c:dC a.1.2.2=true:=by
  simp only[cm,bu,b]at this;simp at this;exact this.1.1
 simp only[dC,pT,ay,bT]at c;omega
theorem Am{n B:Nat}{w:World}{q:List (Tm n)}{a:Option Addr}(b:fe B w n q a){y:Tm n}(c:y∈q):In B w n y:=by
 rcases b with b|⟨_,_,_,_,b⟩
 ·subst b;cases c
 ·obtain⟨e,d⟩:=cM c;exact(b e y d).2
theorem pF{M:Nat}{o:Option (Bh (M+1))}{w w':World}(b:o=none)(a:ag w w'):oR M o w (.returned (.tuple #[.agg #[.string .empty,.slice none 0 0],.bool false])) w':=by
 subst b;exact⟨(.empty,(none,0),[]),false,rfl,a,rfl,⟨aB _,⟨ai _,aB _⟩,ae rfl⟩,ae rfl,λd c=>by cases c⟩
theorem yv(M _n:Nat)(k i:Int)(s:ByteArray)(xa:Option Addr)(l xc:Nat)(j:ByteArray)(a:Option Addr)(len c:Nat)(w:World)(o:Option (Bh (M+1)))(p:Hid (o=none))(t:(j.toList==[98,101,104])=false)(d:Hid (∀w1,ag w w1->ah 90 #[.agg #[.int .i64 k,.int .i64 i,.string s,.slice xa l xc]] w1 λe w'=>e=.returned (.tuple #[.string j,.slice a len c])/\ag w1 w')):ah 92 #[.agg #[.int .i64 k,.int .i64 i,.string s,.slice xa l xc]] w (oR M o w):=by
 go_enter Tryz.func92,Tryz.ntmps92;go_wp2_with fail;refine(d.out _ (by go_grown)).mono ?_;rintro e w1 ⟨rfl,f⟩;obtain⟨q,h,g,y⟩:=dV f;have m:=aj g;have b:=aj h;clear f q h g d;have n:w1.cell? ⟨w.heap.size+1,0,none⟩=some (.string ⟨#[]⟩):=ao b.out 0;have d1:w1.cell? ⟨w.heap.size+1,1,none⟩=some (.slice none 0 0):=ao b.out 1;have u:=λr=>cI b.out r;have x:w.heap.size+1<w1.heap.size:=(aA.1 b.out).1;go_wp2_with fail;exact ap (v:=.tuple #[.agg #[.string .empty,.slice none 0 0],.bool false]) (by simp[results,Tryz.results92,go_sem,n,d1];rfl) rfl (pF p.out ((bA.set (bA.set (bA.refl _ _) _ _) _ _).below m.out (by omega)))
theorem AU(M _n:Nat)(k i:Int)(s:ByteArray)(xa:Option Addr)(l xc:Nat)(j:ByteArray)(a:Option Addr)(len c:Nat)(w:World)(o:Option (Bh (M+1)))(p:Hid (o=none))(t:(j.toList==[98,101,104])=true)(x:(len:Int)<1)(d:Hid (∀w1,ag w w1->ah 90 #[.agg #[.int .i64 k,.int .i64 i,.string s,.slice xa l xc]] w1 λe w'=>e=.returned (.tuple #[.string j,.slice a len c])/\ag w1 w')):ah 92 #[.agg #[.int .i64 k,.int .i64 i,.string s,.slice xa l xc]] w (oR M o w):=by
 go_enter Tryz.func92,Tryz.ntmps92;go_wp2_with fail;refine(d.out _ (by go_grown)).mono ?_;rintro e w1 ⟨rfl,f⟩;obtain⟨q,h,g,z⟩:=dV f;have m:=aj g;have b:=aj h;clear f q h g d;have n:w1.cell? ⟨w.heap.size+1,0,none⟩=some (.string ⟨#[]⟩):=ao b.out 0;have d1:w1.cell? ⟨w.heap.size+1,1,none⟩=some (.slice none 0 0):=ao b.out 1;have u:=λr=>cI b.out r;have y:w.heap.size+1<w1.heap.size:=(aA.1 b.out).1;go_wp2_with fail;exact ap (v:=.tuple #[.agg #[.string .empty,.slice none 0 0],.bool false]) (by simp[results,Tryz.results92,go_sem,n,d1];rfl) rfl (pF p.out ((bA.set (bA.set (bA.refl _ _) _ _) _ _).below m.out (by omega)))
theorem yt(M _n:Nat)(k m:Int)(s:ByteArray)(xa:Option Addr)(p xc:Nat)(n:ByteArray)(b po len c:Nat)(w:World)(o:Option (Bh (M+1)))(r:Hid (o=none))(y:(n.toList==[98,101,104])=true)(B:¬(len:Int)<1)(C:(0:Int)<(len:Int))(t:b<w.heap.size)(l:Int)(g:w.cell? ⟨b,po,none⟩=some (.int .i64 l))(A:(l !=2)=true)(f:Hid (∀w1,ag w w1->ah 90 #[.agg #[.int .i64 k,.int .i64 m,.string s,.slice xa p xc]] w1 λe w'=>e=.returned (.tuple #[.string n,.slice (some ⟨b,po,none⟩) len c])/\ag w1 w')):ah 92 #[.agg #[.int .i64 k,.int .i64 m,.string s,.slice xa p xc]] w (oR M o w):=by
 go_enter Tryz.func92,Tryz.ntmps92;go_wp2_with fail;refine(f.out _ (by go_grown)).mono ?_;rintro e w1 ⟨rfl,h⟩;obtain⟨u,j,i,F⟩:=dV h;have d:=aj i;have a:=aj j;clear h u j i f;replace g:=(am d.out _ _ t).trans g;have D:b<w1.heap.size:=by omega
 have q:w1.cell? ⟨w.heap.size+1,0,none⟩=some (.string ⟨#[]⟩):=ao a.out 0;have d1:w1.cell? ⟨w.heap.size+1,1,none⟩=some (.slice none 0 0):=ao a.out 1;have z:=λx=>cI a.out x;have E:w.heap.size+1<w1.heap.size:=(aA.1 a.out).1;go_wp2_with fail;exact ap (v:=.tuple #[.agg #[.string .empty,.slice none 0 0],.bool false]) (by simp[results,Tryz.results92,go_sem,q,d1];rfl) rfl (pF r.out ((bA.set (bA.set (bA.refl _ _) _ _) _ _).below d.out (by omega)))
theorem AV(M _n:Nat)(k Q:Int)(s:ByteArray)(xa:Option Addr)(S xc:Nat)(R:ByteArray)(d po:Nat)(w:World)(y2:ByteArray)(ad:y2.size<=2048)(t:Option (List (Cl (M+1))))(o:Option (Bh (M+1)))(J:Hid (o=t.map λl=>(y2,(none,0),l)))(au:(R.toList==[98,101,104])=true)(K:d<w.heap.size)(m:w.cell? ⟨d,po,none⟩=some (.int .i64 2))(n:w.cell? ⟨d,po+2,none⟩=some (.string y2))(C:Hid (∀w1,ag w w1->ah 90 #[.agg #[.int .i64 k,.int .i64 Q,.string s,.slice xa S xc]] w1 λe w'=>e=.returned (.tuple #[.string R,.slice (some ⟨d,po,none⟩) 1 1])/\ag w1 w'))(y:Hid (∀w1,ag w w1->ah 125 #[.slice (some ⟨d,po,none⟩) 0 0,.func (Fn.func 126) #[] #[]] w1 (kJ 13 (eE (M+1)) (gE (M+1)) (ju (M+1)) (BF (M+1)) t w1))):ah 92 #[.agg #[.int .i64 k,.int .i64 Q,.string s,.slice xa S xc]] w (oR M o w):=by
 go_enter Tryz.func92,Tryz.ntmps92;go_wp2_with fail;refine(C.out _ (by go_grown)).mono ?_;rintro e w1 ⟨rfl,F⟩;obtain⟨ab,N,G,az⟩:=dV F;have f:=aj G;have D:=aj N;clear F ab N G C;replace m:=(am f.out _ _ K).trans m;replace n:=(am f.out _ _ K).trans n;have L:d<w1.heap.size:=by omega
 go_wp2_with fail;refine(y.out _ f.out).mono ?_;rintro e x ⟨l,c,i,u,rfl,B⟩;have g:=aj B.out.1;have z:Hid (ag w x):=f.out.trans (g.out.mono f.out.size);have E:=aj ((g.out.block (w.heap.size+1) (by omega)).trans D.out);have aw:w1.heap.size<=x.heap.size:=g.out.size;have ax:d<x.heap.size:=by omega
 replace m:=(am g.out _ _ L).trans m;replace n:=(am g.out _ _ L).trans n;obtain⟨j,r⟩:∃j,l.length=j:=⟨_,rfl⟩;rw[r];have U:=aj r;clear y D r;go_wp2_with fail;refine(dD _ _ ad).mono ?_;rintro e a ⟨rfl,p⟩;have A:=aj p;have T:Hid (ag w a):=z.out.trans (p.mono z.out.size);have h:=aj ((p.block (w.heap.size+1) (by omega)).trans E.out);have V:a.cell? ⟨w.heap.size+1,0,none⟩=some (.string ⟨#[]⟩):=ao h.out 0;have d1:a.cell? ⟨w.heap.size+1,1,none⟩=some (.slice none 0 0):=ao h.out 1;have av:=λae=>cI h.out ae;have ay:w.heap.size+1<a.heap.size:=(aA.1 h.out).1;clear p E h;go_wp2_with fail;refine ap (v:=.tuple #[.agg #[.string y2,.slice c j i],.bool u]) (by simp[results,Tryz.results92,go_sem,V,d1]) rfl ?_;have aq:∀w',bA (w.heap.size+1) a w'->oR M o w (.returned (.tuple #[.agg #[.string y2,.slice c j i],.bool u])) w':=λw' I=>by
  obtain⟨aB,af,ai,ak,al,an⟩:=B.out;have q:=cq (dS (M+1)) 13 (eE (M+1)) c;have Y:pe a.heap.size a 13 (eE (M+1)) (gE (M+1) a.heap.size a) c l:=q.mono A.out.size (q.below A.out ak);have aa:sD (ju (M+1) (λb=>w.heap.size+1<b)) (λb=>w.heap.size+1<b) c l:=q.1 _ _ _ (λb (W:w1.heap.size<=b)=>(show w.heap.size+1<b by omega)) al;have X:oJ (M+1) a.heap.size a (y2,(c,i),l):=⟨(show y2.size<=maxLen by unfold maxLen;omega),ai,Y⟩;have H:jt (M+1) (λb=>w.heap.size+1<b) (y2,(c,i),l):=aa;refine⟨(y2,(c,i),l),u,by rw[<-U.out];rfl,I.below T.out (by omega),?_,I.stays (dI _) (P:=λb=>w.heap.size+1<b) (by omega) H X,(dI _).1 _ _ _ (λb (W:w.heap.size+1<b)=>(show w.heap.size<=b by omega)) H,λaC O=>?_⟩
  ·rw[af,J.out];cases t<;>rfl
  ·rw[J.out]at O;obtain⟨ar,Z,rfl⟩:=b8.1 O;exact⟨rfl,an ar Z⟩
 exact aq _ (bA.set (bA.set (bA.refl _ _) _ _) _ _)
theorem yu(M _n:Nat)(k T:Int)(s:ByteArray)(xa:Option Addr)(V xc:Nat)(U:ByteArray)(f po L c:Nat)(w:World)(y2:ByteArray)(af:y2.size<=2048)(u:Option (List (Cl (M+1))))(o:Option (Bh (M+1)))(N:Hid (o=u.map λl=>(y2,(none,0),l)))(aw:(U.toList==[98,101,104])=true)(O:f<w.heap.size)(_hl:¬(L:Int)<1)(K:(0:Int)<(L:Int))(aB:(1:Int)<=(L:Int))(_hlc:(L:Int)<=(c:Int))(az:¬c=1)(_hcm:(c:Int)<=9223372036854775807)(n:w.cell? ⟨f,po,none⟩=some (.int .i64 2))(p:w.cell? ⟨f,po+2,none⟩=some (.string y2))(D:Hid (∀w1,ag w w1->ah 90 #[.agg #[.int .i64 k,.int .i64 T,.string s,.slice xa V xc]] w1 λe w'=>e=.returned (.tuple #[.string U,.slice (some ⟨f,po,none⟩) L c])/\ag w1 w'))(z:Hid (∀w1,ag w w1->ah 125 #[.slice (some ⟨f,po+4,none⟩) (L-1) (c-1),.func (Fn.func 126) #[] #[]] w1 (kJ 13 (eE (M+1)) (gE (M+1)) (ju (M+1)) (BF (M+1)) u w1))):ah 92 #[.agg #[.int .i64 k,.int .i64 T,.string s,.slice xa V xc]] w (oR M o w):=by
 go_enter Tryz.func92,Tryz.ntmps92;go_wp2_with fail;refine(D.out _ (by go_grown)).mono ?_;rintro e w1 ⟨rfl,G⟩;obtain⟨ae,R,H,aE⟩:=dV G;have g:=aj H;have E:=aj R;clear G ae R H D;replace n:=(am g.out _ _ O).trans n;replace p:=(am g.out _ _ O).trans p;have Q:f<w1.heap.size:=by omega
 go_wp2_with fail;refine(z.out _ g.out).mono ?_;rintro e y ⟨l,d,j,x,rfl,C⟩;have h:=aj C.out.1;have A:Hid (ag w y):=g.out.trans (h.out.mono g.out.size);have F:=aj ((h.out.block (w.heap.size+1) (by omega)).trans E.out);have ay:w1.heap.size<=y.heap.size:=h.out.size;have aC:f<y.heap.size:=by omega
 replace n:=(am h.out _ _ Q).trans n;replace p:=(am h.out _ _ Q).trans p;obtain⟨m,t⟩:∃m,l.length=m:=⟨_,rfl⟩;rw[t];have X:=aj t;clear z E t;go_wp2_with fail;refine(dD _ _ af).mono ?_;rintro e a ⟨rfl,q⟩;have B:=aj q;have W:Hid (ag w a):=A.out.trans (q.mono A.out.size);have i:=aj ((q.block (w.heap.size+1) (by omega)).trans F.out);have Y:a.cell? ⟨w.heap.size+1,0,none⟩=some (.string ⟨#[]⟩):=ao i.out 0;have d1:a.cell? ⟨w.heap.size+1,1,none⟩=some (.slice none 0 0):=ao i.out 1;have ax:=λai=>cI i.out ai;have aD:w.heap.size+1<a.heap.size:=(aA.1 i.out).1;clear q F i;go_wp2_with fail;refine ap (v:=.tuple #[.agg #[.string y2,.slice d m j],.bool x]) (by simp[results,Tryz.results92,go_sem,Y,d1]) rfl ?_;have au:∀w',bA (w.heap.size+1) a w'->oR M o w (.returned (.tuple #[.agg #[.string y2,.slice d m j],.bool x])) w':=λw' J=>by
  obtain⟨aF,ak,al,an,aq,ar⟩:=C.out;have r:=cq (dS (M+1)) 13 (eE (M+1)) d;have ab:pe a.heap.size a 13 (eE (M+1)) (gE (M+1) a.heap.size a) d l:=r.mono B.out.size (r.below B.out an);have ad:sD (ju (M+1) (λb=>w.heap.size+1<b)) (λb=>w.heap.size+1<b) d l:=r.1 _ _ _ (λb (Z:w1.heap.size<=b)=>(show w.heap.size+1<b by omega)) aq;have aa:oJ (M+1) a.heap.size a (y2,(d,j),l):=⟨(show y2.size<=maxLen by unfold maxLen;omega),al,ab⟩;have I:jt (M+1) (λb=>w.heap.size+1<b) (y2,(d,j),l):=ad;refine⟨(y2,(d,j),l),x,by rw[<-X.out];rfl,J.below W.out (by omega),?_,J.stays (dI _) (P:=λb=>w.heap.size+1<b) (by omega) I aa,(dI _).1 _ _ _ (λb (Z:w.heap.size+1<b)=>(show w.heap.size<=b by omega)) I,λaG S=>?_⟩
  ·rw[ak,N.out];cases u<;>rfl
  ·rw[N.out]at S;obtain⟨av,K,rfl⟩:=b8.1 S;exact⟨rfl,ar av K⟩
 exact au _ (bA.set (bA.set (bA.refl _ _) _ _) _ _)
theorem AT(M n:Nat)(Z:n<=M+1)(x:Tm n)(B:Nat)(w:World)(K:In B w n x)(H:av ⟨n,x⟩)(p:B<=w.heap.size):ah 92 #[dd n x] w (oR M (yh M n x) w):=by
 cases n with
 | zero=>exact K.elim
 | succ n=>
 obtain⟨D,c,h,S,Y,k⟩:=qC n x B w K p;show ah 92 #[.agg #[.int .i64 x.1.1,.int .i64 x.1.2.1,.string x.1.2.2,.slice x.2.1.1 x.2.2.length x.2.1.2]] w (oR M (sJ M n (eF n x) (bE n x)) w);have I:∀d∈bE n x,av ⟨n,d⟩:=λd U=>dU H U;have R:(bE n x).length<=8:=wh H;generalize eF n x=e at*;generalize bE n x=a at*;have A:rY e sT=(e.toList==[98,101,104]):=mD e [98,101,104];by_cases f:(e.toList==[98,101,104])=true
 ·cases a with
  | nil=>
   have g:sJ M n e []=none:=by simp[sJ]
   exact AU M n _ _ _ _ _ _ e D 0 c w _ g f (by omega) k
  | cons d a=>
   obtain⟨q,po,rfl⟩:=qu h (by simp);cases n with
   | zero=>exact(qU h (show (d::a)[0]?=some d from rfl)).elim
   | succ n=>
   obtain⟨⟨m,W,E,X⟩,ab,aa⟩:=gO h (show (d::a)[0]?=some d from rfl);by_cases i:d.1.1=2
   ·have g:sJ M (n+1) e (d::a)=(cw (yj M (n+1)) a).map λl=>(d.1.2.2,(none,0),l):=by
      simp[sJ,A,f,bK,i,vU,fQ,bu]
    have J:d.1.2.2.size<=2048:=IE (I d (by simp)) i;have G:fe B w (n+1) a (some ⟨q,po+4,none⟩):=by
     rcases h with h|⟨b,o,v,t,h⟩
     ·cases h
     ·injection v with v;injection v with O P;subst O P
      exact af ⟨q,po+4,rfl,t,λz j y=>by
       have:=h (z+1) j (by simpa using y);rw[show po+4+z*4=po+(z+1)*4 by omega]
       exact this⟩
    have C:∀(j:Option Addr)(u:Nat),fe B w (n+1) a j->∀r,ag w r->ah 125 #[.slice j a.length u,.func (Fn.func 126) #[] #[]] r (kJ 13 (eE (M+1)) (gE (M+1)) (ju (M+1)) (BF (M+1)) (cw (yj M (n+1)) a) r):=λj u y r s=>
     sN M (n+1) a a.length rfl (by simp at R;omega) j u B r (y.below (s.mono p)) (aw p s.size) (λN L V Q=>by
      have t:=s.trans (Q.mono s.size)
      exact uC M (n+1) (by omega) N B V ((Am G L).below (t.mono p)) (I N (by simp[L])) (aw p t.size))
    by_cases F:c=1
    ·have T:a=[]:=bD (by simp at S;omega);subst T F;exact AV M (n+1) _ _ _ _ _ _ e q po w d.1.2.2 J _ _ g f (by omega) (by rw[i]at m;simpa using m) (by simpa using E) k (C _ 0 (ae rfl))
    ·exact yu M (n+1) _ _ _ _ _ _ e q po (d::a).length c w d.1.2.2 J _ _ g f (by omega) (by simp only[aV];omega) (by simp only[aV];omega) (by simp only[aV];omega) (by omega) F (by omega) (by rw[i]at m;simpa using m) (by simpa using E) k (C _ (c-1) G)
   ·have g:sJ M (n+1) e (d::a)=none:=by simp[sJ,bK,i]
    exact yt M (n+1) _ _ _ _ _ _ e q po (d::a).length c w _ g f (by simp only[aV];omega) (by simp only[aV];omega) (by omega) d.1.1 (by simpa using m) (by simpa using i) k
 replace f:=nO f;have g:sJ M n e a=none:=by simp[sJ,A,f]
 exact yv M n _ _ _ _ _ _ e D a.length c w _ g f k
abbrev tp(M:Nat)(o:Option (List (Bh (M+1))))(w:World)(e:Ending)(w':World):Prop:=kJ 2 (oM (M+1)) (oJ (M+1)) (jt (M+1)) (xk (M+1)) o w e w'
theorem AQ{M:Nat}{o:Option (List (Bh (M+1)))}{w w':World}(b:o=none)(a:ag w w'):tp M o w (.returned (.tuple #[.slice none 0 0,.bool false])) w':=by
 subst b;exact⟨[],none,0,false,rfl,a,rfl,⟨ai _,aB _⟩,ae rfl,ae rfl,λd c=>by cases c⟩
theorem vm(M _n:Nat)(k r:Int)(s:ByteArray)(xa:Option Addr)(u xc:Nat)(t:ByteArray)(a:Option Addr)(len c:Nat)(w:World)(o:Option (List (Bh (M+1))))(b:Bool)(H:(t.toList==[99,111,100,101])=b)(p:Hid (b=false->o=none))(m:Hid (∀w1,ag w w1->ah 90 #[.agg #[.int .i64 k,.int .i64 r,.string s,.slice xa u xc]] w1 λe w'=>e=.returned (.tuple #[.string t,.slice a len c])/\ag w1 w'))(j:Hid (b=true->∀w1,ag w w1->ah 91 #[.slice a len c,.func (Fn.func 92) #[] #[]] w1 (tp M o w1))):ah 60 #[.agg #[.int .i64 k,.int .i64 r,.string s,.slice xa u xc]] w (tp M o w):=by
 cases b
 ·have HB:Hid (o=none):=p.out rfl;go_enter Tryz.func60,Tryz.ntmps60;go_wp2_with fail;refine(m.out _ (by go_grown)).mono ?_;rintro e w1 ⟨rfl,f⟩;have d:Hid (ag w w1):=aI.trans (f.mono (by simp));clear f;go_wp2_with fail;exact ap (v:=.tuple #[.slice none 0 0,.bool false]) (by simp[results,Tryz.results60,go_sem]) rfl (AQ HB.out d.out)
 ·have x:=aj (j.out rfl);clear j p;go_enter Tryz.func60,Tryz.ntmps60;go_wp2_with fail;refine(m.out _ (by go_grown)).mono ?_;rintro e w1 ⟨rfl,f⟩;have d:Hid (ag w w1):=aI.trans (f.mono (by simp));clear f;go_wp2_with fail;refine(x.out _ d.out).mono ?_;rintro e I ⟨l,h,n,q,rfl,y⟩;obtain⟨g,i⟩:∃g,l.length=g:=⟨_,rfl⟩;rw[i];have z:=aj i;clear i;go_wp2_with fail;refine ap (v:=.tuple #[.slice h g n,.bool q]) (by simp[results,Tryz.results60,go_sem]) rfl ?_;obtain⟨B,C,D,E,F,G⟩:=y.out;exact⟨l,h,n,q,by rw[z.out],d.out.trans (B.mono d.out.size),C,D,E,(cq (dI _) 2 (oM (M+1)) h).1 _ _ _ (λb A=>aw d.out.size A) F,G⟩
theorem yw(M n:Nat)(A:n<=M+1)(x:Tm n)(B:Nat)(w:World)(j:In B w n x)(i:av ⟨n,x⟩)(a:B<=w.heap.size):ah 60 #[dd n x] w (tp M (AO M n x) w):=by
 cases n with
 | zero=>exact j.elim
 | succ n=>
 obtain⟨f,c,h,z,y,o⟩:=qC n x B w j a;have s:∀l∈bE n x,av ⟨n,l⟩:=λl t=>dU i t;have r:(bE n x).length<=8:=wh i;have e:rY (eF n x) mU=((eF n x).toList==[99,111,100,101]):=mD _ [99,111,100,101];refine vm M n _ _ _ _ _ _ (eF n x) f (bE n x).length c w (AO M (n+1) x) _ rfl (λd=>?_) o (λd u b=>?_)
 ·simp only[AO,e,d];rfl
 ·have p:AO M (n+1) x=cw (yh M n) (bE n x):=by simp only[AO,e,d];rfl
  rw[p]
  exact pG M n (bE n x) (bE n x).length rfl r f c B u (h.below (b.mono a)) (aw a b.size) (λm k v q=>by
   have g:=b.trans (q.mono b.size)
   exact AT M n (by omega) m B v ((Am h k).below (g.mono a)) (s m k) (aw a g.size))
theorem zM{s:ByteArray}(b:s.toList.isEmpty=true):s=.empty:=by
 apply tB;have a:ByteArray.empty.toList=[]:=by rw[bW];rfl
 rw[a];simpa using b
theorem wv{n:Nat}{x:Tm (n+1)}(f:av ⟨n+1,x⟩)(c:x.1.1=4):x.1=(4,0,.empty):=by
 have a:=f (bu n x) (by simp[ar,bu]);unfold cm at a;have b:(bu n x).1.1=4:=c;rw[if_neg (by rw[b];omega),if_neg (by rw[b];omega),if_neg (by rw[b];omega),if_pos b]at a;simp only[ay,b9]at a;have d:x.1.2.2=.empty:=zM a.1.1.1;have e:x.1.2.1=0:=a.1.1.2;exact gX c (gX e d)
theorem pH{n:Nat}{x:Tm (n+1)}(g:av ⟨n+1,x⟩)(d:x.1.1=2):x.1=(2,0,x.1.2.2)/\x.2.2=[]/\dC x.1.2.2=true:=by
 have b:=g (bu n x) (by simp[ar,bu]);unfold cm at b;have c:(bu n x).1.1=2:=d;rw[if_neg (by rw[c];omega),if_pos c]at b;simp only[ay,gU,b9]at b;obtain⟨⟨f,e⟩,a⟩:=b;refine⟨gX d (gX e rfl),?_,f⟩;rcases a with a|a
 ·rw[c]at a;omega
 ·have h:¬(0:Int)<(x.2.2.length:Int):=by simpa [bu]using a
  exact bD (by omega)
theorem ww{n:Nat}{x:Tm (n+1)}(g:av ⟨n+1,x⟩)(d:x.1.1=5):x.1=(5,x.1.2.1,.empty)/\x.2.2=[]/\0<=x.1.2.1/\x.1.2.1<=3:=by
 have c:=g (bu n x) (by simp[ar,bu]);unfold cm at c;have a:(bu n x).1.1=5:=d;rw[if_neg (by rw[a];omega),if_neg (by rw[a];omega),if_neg (by rw[a];omega),if_neg (by rw[a];omega),if_pos a]at c;simp only[ay,gU,b9,pT,bT]at c;obtain⟨⟨f,e⟩,b⟩:=c;refine⟨gX d (gX rfl (zM f)),?_,e⟩;rcases b with b|b
 ·rw[a]at b;omega
 ·have h:¬(0:Int)<(x.2.2.length:Int):=by simpa [bu]using b
  exact bD (by omega)
theorem qZ{n:Nat}{x:Tm (n+1)}(d:av ⟨n+1,x⟩)(b:x.1.1=2)(N:Nat):au (N+1) (aU x.1.2.2 N) (n+1) x=true:=by
 obtain⟨a,c,_⟩:=pH d b;refine cW a.symm ?_;rw[c];rfl
theorem JE{n:Nat}{x:Tm (n+1)}(d:av ⟨n+1,x⟩)(c:x.1.1=5)(N:Nat):au (N+1) (bF 5 x.1.2.1 N) (n+1) x=true:=by
 obtain⟨a,b,_⟩:=ww d c;refine cW a.symm ?_;rw[b];rfl
theorem gm{n:Nat}{x:Tm (n+1)}(j:av ⟨n+1,x⟩){f:ByteArray}(o:rY (eF n x) f=true)(b:f.toList≠[]):x.1=(4,0,.empty)/\∃i,x.2.2=i::bE n x/\∀N,au (N+1) (aU f N) n i=true:=by
 have g:ByteArray.empty.toList=[]:=by rw[bW];rfl
 have a:eF n x=f:=tB o;unfold eF at a;by_cases e:x.1.1=4
 ·rw[if_pos e]at a;refine⟨wv j e,?_⟩;obtain⟨⟨k,r,q⟩,⟨p,c⟩,l⟩:=x;simp only at e a;subst e;cases l with
  | nil=>
   simp at a;rw[<-a,g]at b;exact(b rfl).elim
  | cons d l=>
   simp only[cG]at a;cases n with
   | zero=>
    simp[bK]at a;rw[<-a,g]at b;exact(b rfl).elim
   | succ n=>
    by_cases h:d.1.1=2
    ·refine⟨d,by simp[bE,bK,h],λN=>?_⟩;have m:f=d.1.2.2:=by
      rw[if_pos (show bK ⟨n+1,d⟩=2 from h)]at a;exact a.symm
     rw[m];exact qZ (aN (n+1) _ d j (by simp)) h N
    ·rw[if_neg (show¬bK ⟨n+1,d⟩=2 from h)]at a;rw[<-a,g]at b;exact(b rfl).elim
 ·rw[if_neg e]at a;rw[<-a,g]at b;exact(b rfl).elim
theorem mN(l:List UInt8)(a:l≠[]):(⟨l.toArray⟩:ByteArray).toList≠[]:=by rw[jJ];exact a
theorem lL{M n:Nat}(a:n<=M+1){y:Tm n}(b:av ⟨n,y⟩):au (M+1) (aK (M+1) n y) n y=true:=lH (M+1) n a y (eV n y b)
theorem Iz{b:Type}{l:List b}{a:b}(c:l.length=1)(d:l[0]?=some a):l=[a]:=by
 match l,c with
 | [x],_=>simpa using d
theorem IA{e:Type}{l:List e}{a b:e}(f:l.length=2)(c:l[0]?=some a)(d:l[1]?=some b):l=[a,b]:=by
 match l,f with
 | [x,y],_=>
  simp at c d;rw[c,d]
theorem Cv{g:Type}{l:List g}{a b c:g}(h:l.length=3)(d:l[0]?=some a)(e:l[1]?=some b)(f:l[2]?=some c):l=[a,b,c]:=by
 match l,h with
 | [x,y,z],_=>
  simp at d e f;rw[d,e,f]
theorem Fq{i:Type}{l:List i}{a b c d:i}(j:l.length=4)(e:l[0]?=some a)(f:l[1]?=some b)(g:l[2]?=some c)(h:l[3]?=some d):l=[a,b,c,d]:=by
 match l,j with
 | [x,y,z,t],_=>
  simp at e f g h;rw[e,f,g,h]
theorem IZ(M:Nat):(n:Nat)->n<=M+1->(x:Tm n)->av ⟨n,x⟩->(a:Ac (M+1))->rF M n x=some a->au (M+2) (bU M a) n x=true/\mW (M+1) a=true
 | 0,_,_,hr,_,_=>(cY hr).elim
 | n+1,hn,x,hr,a,h=>by
  have e:∀y∈bE n x,av ⟨n,y⟩:=λy E=>dU hr E;have w:ex (M+1) (zT M)=true:=by
   have t:ByteArray.empty.toList=[]:=by rw[bW];rfl
   simp[ex,fQ,bu,zT,t]
  have u:vj .empty 0=true:=by
   have t:ByteArray.empty.toList=[]:=by rw[bW];rfl
   simp[vj,t]
  have get:∀(d:List (Tm n))(s:Nat),s<d.length->∃y,d[s]?=some y/\y∈d:=λd s z=>⟨d[s],aD z,jc z⟩;simp only[rF,jp]at h;split at h
  ·rename_i b;simp only[ay,bT]at b;obtain⟨k,j,l,m⟩:=gm hr b.1 (mN [115,101,110,100] (by simp));obtain⟨c,f,p⟩:=get _ 0 (by rw[b.2];omega);obtain⟨d,q,v⟩:=get _ 1 (by rw[b.2];omega);rw[f,q]at h;have i:a=(1,(aK (M+1) n c,aK (M+1) n d),(.empty,0)):=by simpa using h.symm
   have o:bE n x=[c,d]:=IA b.2 f q;subst i;refine⟨cW k.symm ?_,u⟩;rw[l,o];show az _ [aU lT M,aK (M+1) n c,aK (M+1) n d] [j,c,d]=true;simp only[az,m M,lL (M:=M) (by omega) (e c p),lL (M:=M) (by omega) (e d v),gT]
  split at h
  ·rename_i b;simp only[ay,bT]at b;obtain⟨k,j,l,m⟩:=gm hr b.1 (mN [115,112,97,119,110] (by simp));obtain⟨c,f,p⟩:=get _ 0 (by rw[b.2];omega);obtain⟨d,q,v⟩:=get _ 1 (by rw[b.2];omega);obtain⟨g,B,A⟩:=get _ 2 (by rw[b.2];omega);rw[f,q,B]at h;simp only[dl,yk]at h;split at h
   ·rename_i r;have i:a=(2,(zT M,aK (M+1) n d),(vU n c,oN n g)):=by simpa using h.symm
    have o:bE n x=[c,d,g]:=Cv b.2 f q B;subst i;cases n with
    | zero=>exact(cY (e c p)).elim
    | succ n=>
    have D:=ww (e g A) r.2;have C:=pH (e c p) r.1;refine⟨cW k.symm ?_,?_⟩
    ·rw[l,o];show az _ [aU iz M,aU c.1.2.2 M,aK (M+1) (n+1) d,bF 5 g.1.2.1 M] [j,c,d,g]=true;simp only[az,m M,lL (M:=M) (by omega) (e d v),qZ (e c p) r.1 M,JE (e g A) r.2 M,gT]
    ·show (ex (M+1) (zT M) && dC c.1.2.2 && decide (0<=g.1.2.1) && decide (g.1.2.1<4))=true;rw[w,C.2.2,gD D.2.2.1,gD (by omega)];rfl
   ·cases h
  split at h
  ·rename_i b;simp only[ay,bT]at b;obtain⟨k,j,l,m⟩:=gm hr b.1 (mN [108,105,110,107] (by simp));obtain⟨c,f,p⟩:=get _ 0 (by rw[b.2];omega);rw[f]at h;have i:a=(3,(aK (M+1) n c,zT M),(.empty,0)):=by simpa using h.symm
   have o:bE n x=[c]:=Iz b.2 f;subst i;refine⟨cW k.symm ?_,?_⟩
   ·rw[l,o];show az _ [aU lS M,aK (M+1) n c] [j,c]=true;simp only[az,m M,lL (M:=M) (by omega) (e c p),gT]
   ·show (ex (M+1) (zT M) && vj .empty 0)=true;rw[w,u];rfl
  split at h
  ·rename_i b;simp only[ay,bT]at b;obtain⟨k,j,l,m⟩:=gm hr b.1 (mN [115,116,111,112] (by simp));have i:a=(4,(zT M,zT M),(.empty,0)):=by simpa using h.symm
   have o:bE n x=[]:=bD b.2;subst i;refine⟨cW k.symm ?_,?_⟩
   ·rw[l,o];show az _ [aU kU M] [j]=true;simp only[az,m M,gT]
   ·show (ex (M+1) (zT M) && ex (M+1) (zT M) && vj .empty 0)=true;rw[w,u];rfl
  ·cases h
theorem oS{b:Type}{f g:b->Bool}:{l:List b}->(∀x∈l,f x=g x)->l.all f=l.all g
 | [],_=>rfl
 | a::l,h=>by
  simp only[iE,h a (by simp),oS (l:=l) λx c=>h x (by simp[c])]
theorem nL{d:Type}{n N:Nat}{f:Tm n->Option d}{g:d->Tm N}{B:d->Bool}(e:∀x a,av ⟨n,x⟩->f x=some a->au N (g a) n x=true/\B a=true):(p:List (Tm n))->(∀y∈p,av ⟨n,y⟩)->(l:List d)->cw f p=some l->az (λa b=>au N a n b) (l.map g) p=true/\l.all B=true/\l.length=p.length
 | [],_,l,c=>by
  simp[cw]at c;subst c;exact⟨rfl,rfl,rfl⟩
 | y::p,hr,l,c=>by
  simp only[cw]at c;obtain⟨a,k,c⟩:=bj.1 c;obtain⟨r,m,rfl⟩:=b8.1 c;obtain⟨h,i,j⟩:=nL e p (λt o=>hr t (by simp[o])) r m;obtain⟨q,s⟩:=e y a (hr y (by simp)) k;refine⟨?_,by simp[s,i],by simp[j]⟩;simp only[aH,az,q,h,gT]
theorem pA{N M n:Nat}(c:n<=M+1)(b:M+1<=N){y:Tm n}(d:av ⟨n,y⟩):au N (aK N (M+1) (aK (M+1) n y)) n y=true:=by
 have a:=lL c d;exact bM _ _ _ _ _ _ (lH N (M+1) b _ (wG a)) a
theorem I1(M:Nat):(n:Nat)->n<=M+1->(x:Tm n)->av ⟨n,x⟩->(c:Cl (M+1))->yj M n x=some c->au (M+4) (dp M c) n x=true/\sE (M+1) c=true
 | 0,_,_,hr,_,_=>(cY hr).elim
 | n+1,hn,x,hr,c,h=>by
  have d:∀y∈bE n x,av ⟨n,y⟩:=λy e=>dU hr e;have get:∀(q:List (Tm n))(i:Nat),i<q.length->∃y,q[i]?=some y/\y∈q:=λq i j=>⟨q[i],aD j,jc j⟩;simp only[yj,rG]at h;split at h
  ·rename_i b;simp only[ay,bT]at b;obtain⟨z,w,A,C⟩:=gm hr b.1 (mN [111,110] (by simp));obtain⟨p,k,m⟩:=get _ 0 (by rw[b.2];omega);obtain⟨q,o,I⟩:=get _ 1 (by rw[b.2];omega);obtain⟨r,u,f⟩:=get _ 2 (by rw[b.2];omega);obtain⟨t,v,J⟩:=get _ 3 (by rw[b.2];omega);rw[k,o,u,v]at h;simp only[dl]at h;split at h
   ·rename_i F;obtain⟨l,G,rfl⟩:=b8.1 h;have H:bE n x=[p,q,r,t]:=Fq b.2 k o u v;cases n with
    | zero=>exact(cY (d p m)).elim
    | succ n=>
    have s:r.1.1=4:=F;obtain⟨K,L,P⟩:=nL (g:=bU M) (B:=mW (M+1)) (λy a e E=>IZ M n (by omega) y e a E) r.2.2 (λy e=>aN n r y (d r f) e) l G;have O:=lN (d r f) s;refine⟨cW z.symm ?_,?_⟩
    ·rw[A,H];show az _ [aU JW (M+2),aK (M+3) (M+1) (aK (M+1) (n+1) p),aK (M+3) (M+1) (aK (M+1) (n+1) q),cR (M+2) (l.map (bU M)),aK (M+3) (M+1) (aK (M+1) (n+1) t)] [w,p,q,r,t]=true;have D:au (M+3) (cR (M+2) (l.map (bU M))) (n+1) r=true:=cW (wv (d r f) s).symm K;simp only[az,C (M+2),pA (N:=M+3) (M:=M) (by omega) (by omega) (d p m),pA (N:=M+3) (M:=M) (by omega) (by omega) (d q I),pA (N:=M+3) (M:=M) (by omega) (by omega) (d t J),D,gT]
    ·show (decide ((l.length:Int)<=8) && l.all (mW (M+1)))=true;rw[L,gD (by omega)];rfl
   ·cases h
  ·cases h
theorem I0(M:Nat):(n:Nat)->n<=M+1->(x:Tm n)->av ⟨n,x⟩->(b:Bh (M+1))->yh M n x=some b->au (M+5) (dz M b) n x=true/\(dC b.1 && decide ((b.2.2.length:Int)<=6) && b.2.2.all (sE (M+1)))=true
 | 0,_,_,hr,_,_=>(cY hr).elim
 | n+1,hn,x,hr,b,a=>by
  have e:∀y∈bE n x,av ⟨n,y⟩:=λy d=>dU hr d;simp only[yh,sJ]at a;split at a
  ·rename_i u;obtain⟨h,r,i,s⟩:=gm hr u (mN [98,101,104] (by simp));obtain⟨p,m,a⟩:=bj.1 a;split at a
   ·rename_i k;obtain⟨l,v,rfl⟩:=b8.1 a;have z:x.1.1=4:=by rw[h]
    have j:=lN hr z;generalize bE n x=f at*;cases f with
    | nil=>simp at m
    | cons c f=>
    have q:c=p:=by simpa using m
    subst q;cases n with
    | zero=>exact(cY (e c (by simp))).elim
    | succ n=>
    have w:=pH (e c (by simp)) k;obtain⟨A,C,D⟩:=nL (g:=dp M) (B:=sE (M+1)) (λy o d t=>I1 M (n+1) (by omega) y d o t) f (λy d=>e y (by simp[d])) l v;rw[i]at j;simp only[aV]at j;refine⟨cW h.symm ?_,?_⟩
    ·rw[i];show az _ (aU sT (M+3)::aU c.1.2.2 (M+3)::l.map (dp M)) (r::c::f)=true;simp only[az,s (M+3),qZ (e c (by simp)) k (M+3),A,gT]
    ·show (dC c.1.2.2 && decide ((l.length:Int)<=6) && l.all (sE (M+1)))=true;rw[w.2.2,C,gD (by omega)];rfl
   ·cases a
  ·cases a
theorem AP(M:Nat):(n:Nat)->n<=M+1->(x:Tm n)->av ⟨n,x⟩->(l:List (Bh (M+1)))->AO M n x=some l->au (M+6) (bR M l) n x=true/\jP (M+1) l=(decide (1<=(l.length:Int)) && l.all λb=>decide (1<=(b.2.2.length:Int)))
 | 0,_,_,hr,_,_=>(cY hr).elim
 | n+1,hn,x,hr,l,h=>by
  have r:∀y∈bE n x,av ⟨n,y⟩:=λy c=>dU hr c;simp only[AO]at h;split at h
  ·rename_i a;obtain⟨d,o,e,p⟩:=gm hr a (mN [99,111,100,101] (by simp));have s:x.1.1=4:=by rw[d]
   have f:=lN hr s;obtain⟨t,i,u⟩:=nL (g:=dz M) (B:=λb=>dC b.1 && decide ((b.2.2.length:Int)<=6) && b.2.2.all (sE (M+1))) (λy j c q=>I0 M n (by omega) y c j q) (bE n x) r l h;rw[e]at f;simp only[aV]at f;refine⟨cW d.symm ?_,?_⟩
   ·rw[e];show az _ (aU mU (M+4)::l.map (dz M)) (o::bE n x)=true;simp only[az,p (M+4),t,gT]
   ·have k:decide ((l.length:Int)<=7)=true:=gD (by omega);have m:l.all (vd (M+1))=l.all λb=>decide (1<=(b.2.2.length:Int)):=by
     rw[bX]at i;refine oS λb a=>?_;have:=i b a;simp only[ay]at this;simp only[vd,this.1.1,this.1.2,this.2,dX,Bool.and_true]
    simp only[jP,k,m,Bool.and_true]
  ·cases h
end Go.Proofs.YtckamaoibonjcaaGreat
