/- Proved here: plain facts and contracts. No condition but what each names. -/
import Derived.Test.YtmmahddlcldmiaaGreatJ29
namespace Go.Proofs.YtmmahddlcldmiaaGreat
open Go.RowKit Tryz
set_option maxHeartbeats 4000000
set_option maxRecDepth 100000
abbrev jv(M:Nat)(o:Option (Cl (M+1)))(w:ag)(e:Ending)(w':ag):Prop:=qW (fk (M+1)) (ig (M+1)) (jY (M+1)) (CR (M+1)) o w e w'
def Qf(M:Nat):Cl (M+1):=((zT M,zT M,zT M),(none,0),[])
variable{M N n:Nat}{e:Type}{w w':ag}{d s:ap}{a b c:e}{l p:List e}
theorem l9{o:Option (Cl (M+1))}(b:o=none)(a:ak w w'):jv M o w (.returned (.tuple #[.agg #[ab 0,ab 0,af .empty,ae none 0 0,ab 0,ab 0,af .empty,ae none 0 0,ae none 0 0,ab 0,ab 0,af .empty,ae none 0 0],.bool false])) w':=by
 subst b;exact⟨Qf M,false,rfl,a,rfl,⟨⟨lF _ _ _,lF _ _ _,lF _ _ _⟩,⟨ao _,aL _⟩,ai rfl⟩,⟨⟨ai rfl,ai rfl,ai rfl⟩,ai rfl⟩,λd c=>by cases c⟩
theorem mL{m:Tm (n+1)}(c:aI ⟨n+1,m⟩)(d:m.1.1=4):m.2.2.length<=8:=by
 have b:=c (bI n m) (by simp[aC,bI]);unfold cJ at b;have a:(bI n m).1.1=4:=d;rw[if_neg (by rw[a];omega),if_neg (by rw[a];omega),if_neg (by rw[a];omega),if_pos a]at b;simp only[aK,co]at b;have e:(m.2.2.length:Int)<=8:=b.1.2;omega
theorem ua{q:Nat}{c0 b f g h i k l m n c d e:av}{t:TypeId}(a:w.heap[q]?=some (.cells #[c0,b,f,g,h,i,k,l,m,n,c,d,e] t)):(w.cell? ⟨q,0,none⟩=some c0/\w.cell? ⟨q,1,none⟩=some b/\w.cell? ⟨q,2,none⟩=some f/\w.cell? ⟨q,3,none⟩=some g/\w.cell? ⟨q,4,none⟩=some h/\w.cell? ⟨q,5,none⟩=some i/\w.cell? ⟨q,6,none⟩=some k/\w.cell? ⟨q,7,none⟩=some l/\w.cell? ⟨q,8,none⟩=some m/\w.cell? ⟨q,9,none⟩=some n/\w.cell? ⟨q,10,none⟩=some c/\w.cell? ⟨q,11,none⟩=some d/\w.cell? ⟨q,12,none⟩=some e)/\(∀j,w.frozen? ⟨q,j,none⟩=false)/\q<w.heap.size:=
 ⟨⟨ay a 0,ay a 1,ay a 2,ay a 3,ay a 4,ay a 5,ay a 6,ay a 7,ay a 8,ay a 9,ay a 10,ay a 11,ay a 12⟩,λj=>dc a j,(aJ.1 a).1⟩
theorem tR(M _n:Nat)(k u:Int)(s:ap)(xa:aw)(i xc:Nat)(h:ap)(a:aw)(len c:Nat)(w:ag)(o:Option (Cl (M+1)))(D:Hid (o=none))(F:(h.toList==[111,110])=false)(b:Hid (∀w1,ak w w1->am 104 #[.agg #[ab k,ab u,af s,ae xa i xc]] w1 λe w'=>e=.returned (.tuple #[af h,ae a len c])/\ak w1 w')):am 144 #[.agg #[ab k,ab u,af s,ae xa i xc]] w (jv M o w):=by
 go_enter func144,ntmps144;go_wp2_with fail;refine(b _ (by go_grown)).mono ?_;rintro e w1 ⟨rfl,d⟩;obtain⟨E,g,f,I⟩:=eH d;have j:=au f;have l:=au g;clear d E g f b;obtain⟨⟨m,d1,r,t,x,y,z,A,B,C,n,p,q⟩,G,H⟩:=ua l;go_wp2_with fail;exact az (v:=.tuple #[.agg #[ab 0,ab 0,af .empty,ae none 0 0,ab 0,ab 0,af .empty,ae none 0 0,ae none 0 0,ab 0,ab 0,af .empty,ae none 0 0],.bool false]) (by simp[results,results144,go_sem,m,d1,r,t,x,y,z,A,B,C,n,p,q];rfl) rfl (l9 D ((rC _ _ _ _ _ _ _ _ _ _ _ _ _ _ _).below j (by omega)))
theorem vM(M _n:Nat)(k u:Int)(s:ap)(xa:aw)(i xc:Nat)(h:ap)(a:aw)(len c:Nat)(w:ag)(o:Option (Cl (M+1)))(D:Hid (o=none))(F:(h.toList==[111,110])=true)(_hl:((len:Int)==4)=false)(H:((len:Int) !=4)=true)(b:Hid (∀w1,ak w w1->am 104 #[.agg #[ab k,ab u,af s,ae xa i xc]] w1 λe w'=>e=.returned (.tuple #[af h,ae a len c])/\ak w1 w')):am 144 #[.agg #[ab k,ab u,af s,ae xa i xc]] w (jv M o w):=by
 go_enter func144,ntmps144;go_wp2_with fail;refine(b _ (by go_grown)).mono ?_;rintro e w1 ⟨rfl,d⟩;obtain⟨E,g,f,J⟩:=eH d;have j:=au f;have l:=au g;clear d E g f b;obtain⟨⟨m,d1,r,t,x,y,z,A,B,C,n,p,q⟩,G,I⟩:=ua l;go_wp2_with fail;exact az (v:=.tuple #[.agg #[ab 0,ab 0,af .empty,ae none 0 0,ab 0,ab 0,af .empty,ae none 0 0,ae none 0 0,ab 0,ab 0,af .empty,ae none 0 0],.bool false]) (by simp[results,results144,go_sem,m,d1,r,t,x,y,z,A,B,C,n,p,q];rfl) rfl (l9 D ((rC _ _ _ _ _ _ _ _ _ _ _ _ _ _ _).below j (by omega)))
theorem tP(M _n:Nat)(k u:Int)(s:ap)(xa:aw)(m xc:Nat)(l:ap)(a po c:Nat)(w:ag)(o:Option (Cl (M+1)))(F:Hid (o=none))(I:(l.toList==[111,110])=true)(G:a<w.heap.size)(j:Int)(f:w.cell? ⟨a,po+8,none⟩=some (ab j))(K:(j !=4)=true)(d:Hid (∀w1,ak w w1->am 104 #[.agg #[ab k,ab u,af s,ae xa m xc]] w1 λe w'=>e=.returned (.tuple #[af l,ae (some ⟨a,po,none⟩) 4 c])/\ak w1 w')):am 144 #[.agg #[ab k,ab u,af s,ae xa m xc]] w (jv M o w):=by
 go_enter func144,ntmps144;go_wp2_with fail;refine(d _ (by go_grown)).mono ?_;rintro e w1 ⟨rfl,g⟩;obtain⟨H,i,h,O⟩:=eH g;have b:=au h;have n:=au i;clear g H i h d;replace f:=(ax b _ _ G).trans f;have L:a<w1.heap.size:=by omega
 obtain⟨⟨p,d1,x,y,z,A,B,C,D,E,q,r,t⟩,J,N⟩:=ua n;go_wp2_with fail;exact az (v:=.tuple #[.agg #[ab 0,ab 0,af .empty,ae none 0 0,ab 0,ab 0,af .empty,ae none 0 0,ae none 0 0,ab 0,ab 0,af .empty,ae none 0 0],.bool false]) (by simp[results,results144,go_sem,p,d1,x,y,z,A,B,C,D,E,q,r,t];rfl) rfl (l9 F ((rC _ _ _ _ _ _ _ _ _ _ _ _ _ _ _).below b (by omega)))
theorem MX{g a po:Nat}{y x t:Tm (n+1)}(d:a<g)(c:bP g w w')(k:(w.cell? ⟨a,po,none⟩=some (ab y.1.1)/\w.cell? ⟨a,po+1,none⟩=some (ab y.1.2.1)/\w.cell? ⟨a,po+2,none⟩=some (af y.1.2.2)/\w.cell? ⟨a,po+3,none⟩=some (ae y.2.1.1 y.2.2.length y.2.1.2))/\(w.cell? ⟨a,po+4,none⟩=some (ab x.1.1)/\w.cell? ⟨a,po+5,none⟩=some (ab x.1.2.1)/\w.cell? ⟨a,po+6,none⟩=some (af x.1.2.2)/\w.cell? ⟨a,po+7,none⟩=some (ae x.2.1.1 x.2.2.length x.2.1.2))/\(w.cell? ⟨a,po+12,none⟩=some (ab t.1.1)/\w.cell? ⟨a,po+13,none⟩=some (ab t.1.2.1)/\w.cell? ⟨a,po+14,none⟩=some (af t.1.2.2)/\w.cell? ⟨a,po+15,none⟩=some (ae t.2.1.1 t.2.2.length t.2.1.2))):(w'.cell? ⟨a,po,none⟩=some (ab y.1.1)/\w'.cell? ⟨a,po+1,none⟩=some (ab y.1.2.1)/\w'.cell? ⟨a,po+2,none⟩=some (af y.1.2.2)/\w'.cell? ⟨a,po+3,none⟩=some (ae y.2.1.1 y.2.2.length y.2.1.2))/\(w'.cell? ⟨a,po+4,none⟩=some (ab x.1.1)/\w'.cell? ⟨a,po+5,none⟩=some (ab x.1.2.1)/\w'.cell? ⟨a,po+6,none⟩=some (af x.1.2.2)/\w'.cell? ⟨a,po+7,none⟩=some (ae x.2.1.1 x.2.2.length x.2.1.2))/\(w'.cell? ⟨a,po+12,none⟩=some (ab t.1.1)/\w'.cell? ⟨a,po+13,none⟩=some (ab t.1.2.1)/\w'.cell? ⟨a,po+14,none⟩=some (af t.1.2.2)/\w'.cell? ⟨a,po+15,none⟩=some (ae t.2.1.1 t.2.2.length t.2.1.2)):=by
 have b:=λo=>ge c (show a≠g by omega) o;exact⟨⟨(b _).trans k.1.1,(b _).trans k.1.2.1,(b _).trans k.1.2.2.1,(b _).trans k.1.2.2.2⟩,⟨(b _).trans k.2.1.1,(b _).trans k.2.1.2.1,(b _).trans k.2.1.2.2.1,(b _).trans k.2.1.2.2.2⟩,(b _).trans k.2.2.1,(b _).trans k.2.2.2.1,(b _).trans k.2.2.2.2.1,(b _).trans k.2.2.2.2.2⟩
theorem tQ(M n:Nat)(k u:Int)(s:ap)(xa:aw)(aV xc:Nat)(aU:ap)(d po c:Nat)(w:ag)(y x m t:Tm (n+1))(aj:n+1<=M+1)(ar:Option (List (Ac (M+1))))(o:Option (Cl (M+1)))(aL:Hid (o=ar.map λl=>((aY (M+1) (n+1) y,aY (M+1) (n+1) x,aY (M+1) (n+1) t),(none,0),l)))(bw:(aU.toList==[111,110])=true)(h:d<w.heap.size)(R:w.cell? ⟨d,po,none⟩=some (ab y.1.1))(S:w.cell? ⟨d,po+1,none⟩=some (ab y.1.2.1))(T:w.cell? ⟨d,po+2,none⟩=some (af y.1.2.2))(U:w.cell? ⟨d,po+3,none⟩=some (ae y.2.1.1 y.2.2.length y.2.1.2))(L:w.cell? ⟨d,po+4,none⟩=some (ab x.1.1))(N:w.cell? ⟨d,po+5,none⟩=some (ab x.1.2.1))(O:w.cell? ⟨d,po+6,none⟩=some (af x.1.2.2))(Q:w.cell? ⟨d,po+7,none⟩=some (ae x.2.1.1 x.2.2.length x.2.1.2))(Y:w.cell? ⟨d,po+8,none⟩=some (ab m.1.1))(al:w.cell? ⟨d,po+9,none⟩=some (ab m.1.2.1))(an:w.cell? ⟨d,po+10,none⟩=some (af m.1.2.2))(ao:w.cell? ⟨d,po+11,none⟩=some (ae m.2.1.1 m.2.2.length m.2.1.2))(H:w.cell? ⟨d,po+12,none⟩=some (ab t.1.1))(I:w.cell? ⟨d,po+13,none⟩=some (ab t.1.2.1))(J:w.cell? ⟨d,po+14,none⟩=some (af t.1.2.2))(K:w.cell? ⟨d,po+15,none⟩=some (ae t.2.1.1 t.2.2.length t.2.1.2))(bl:m.1.1=4)(aF:Hid (∀w1,ak w w1->am 104 #[.agg #[ab k,ab u,af s,ae xa aV xc]] w1 λe w'=>e=.returned (.tuple #[af aU,ae (some ⟨d,po,none⟩) 4 c])/\ak w1 w'))(ay:Hid (∀w1,ak w w1->am 181 #[ae m.2.1.1 m.2.2.length m.2.1.2,.func (Fn.func 182) #[] #[]] w1 (lK 11 (gi (M+1)) (iJ (M+1)) (mg (M+1)) (CX (M+1)) ar w1)))(aA:Hid (∀w1,ak w w1->am 56 #[.agg #[ab y.1.1,ab y.1.2.1,af y.1.2.2,ae y.2.1.1 y.2.2.length y.2.1.2]] w1 λe w'=>∃a:Tm (n+1),e=.returned (.agg #[ab a.1.1,ab a.1.2.1,af a.1.2.2,ae a.2.1.1 a.2.2.length a.2.1.2])/\Hid (ak w1 w'/\In w'.heap.size w' (n+1) a/\cr (λq=>w1.heap.size<=q) (n+1) a/\aB (n+1) a (n+1) y=true)))(aC:Hid (∀w1,ak w w1->am 56 #[.agg #[ab x.1.1,ab x.1.2.1,af x.1.2.2,ae x.2.1.1 x.2.2.length x.2.1.2]] w1 λe w'=>∃a:Tm (n+1),e=.returned (.agg #[ab a.1.1,ab a.1.2.1,af a.1.2.2,ae a.2.1.1 a.2.2.length a.2.1.2])/\Hid (ak w1 w'/\In w'.heap.size w' (n+1) a/\cr (λq=>w1.heap.size<=q) (n+1) a/\aB (n+1) a (n+1) x=true)))(aD:Hid (∀w1,ak w w1->am 56 #[.agg #[ab t.1.1,ab t.1.2.1,af t.1.2.2,ae t.2.1.1 t.2.2.length t.2.1.2]] w1 λe w'=>∃a:Tm (n+1),e=.returned (.agg #[ab a.1.1,ab a.1.2.1,af a.1.2.2,ae a.2.1.1 a.2.2.length a.2.1.2])/\Hid (ak w1 w'/\In w'.heap.size w' (n+1) a/\cr (λq=>w1.heap.size<=q) (n+1) a/\aB (n+1) a (n+1) t=true))):am 144 #[.agg #[ab k,ab u,af s,ae xa aV xc]] w (jv M o w):=by
 go_enter func144,ntmps144;go_wp2_with fail;refine(aF _ (by go_grown)).mono ?_;rintro e w1 ⟨rfl,aH⟩;obtain⟨bp,aP,aI,bD⟩:=eH aH;have f:=au aI;have aG:=au aP;clear aH bp aP aI aF;replace R:=(ax f _ _ h).trans R;replace S:=(ax f _ _ h).trans S;replace T:=(ax f _ _ h).trans T;replace U:=(ax f _ _ h).trans U;replace L:=(ax f _ _ h).trans L;replace N:=(ax f _ _ h).trans N;replace O:=(ax f _ _ h).trans O;replace Q:=(ax f _ _ h).trans Q;replace Y:=(ax f _ _ h).trans Y;replace al:=(ax f _ _ h).trans al;replace an:=(ax f _ _ h).trans an;replace ao:=(ax f _ _ h).trans ao;replace H:=(ax f _ _ h).trans H;replace I:=(ax f _ _ h).trans I;replace J:=(ax f _ _ h).trans J;replace K:=(ax f _ _ h).trans K;have bn:d<w1.heap.size:=by omega
 rw[bl]at Y;go_wp2_with fail;refine(ay _ f).mono ?_;rintro e z ⟨l,j,r,av,rfl,aE⟩;have V:=au aE.1;have A:Hid (ak w z):=f.trans (V.mono f.size);have a0:=au ((V.block (w.heap.size+1) (by omega)).trans aG);have bz:w1.heap.size<=z.heap.size:=V.size;have bo:d<z.heap.size:=by omega
 have C:Hid (∀w',ak z w'->(w'.cell? ⟨d,po,none⟩=some (ab y.1.1)/\w'.cell? ⟨d,po+1,none⟩=some (ab y.1.2.1)/\w'.cell? ⟨d,po+2,none⟩=some (af y.1.2.2)/\w'.cell? ⟨d,po+3,none⟩=some (ae y.2.1.1 y.2.2.length y.2.1.2))/\(w'.cell? ⟨d,po+4,none⟩=some (ab x.1.1)/\w'.cell? ⟨d,po+5,none⟩=some (ab x.1.2.1)/\w'.cell? ⟨d,po+6,none⟩=some (af x.1.2.2)/\w'.cell? ⟨d,po+7,none⟩=some (ae x.2.1.1 x.2.2.length x.2.1.2))/\(w'.cell? ⟨d,po+12,none⟩=some (ab t.1.1)/\w'.cell? ⟨d,po+13,none⟩=some (ab t.1.2.1)/\w'.cell? ⟨d,po+14,none⟩=some (af t.1.2.2)/\w'.cell? ⟨d,po+15,none⟩=some (ae t.2.1.1 t.2.2.length t.2.1.2))):=λw' bf=>by
  have i:=λo=>(ax bf d o bo).trans (ax V d o bn);exact⟨⟨(i _).trans R,(i _).trans S,(i _).trans T,(i _).trans U⟩,⟨(i _).trans L,(i _).trans N,(i _).trans O,(i _).trans Q⟩,(i _).trans H,(i _).trans I,(i _).trans J,(i _).trans K⟩
 obtain⟨X,ai⟩:∃X,l.length=X:=⟨_,rfl⟩;rw[ai];have aZ:=au ai;clear ay aG R S T U L N O Q Y al an ao H I J K ai;obtain⟨⟨R,S,T,U⟩,⟨L,N,O,Q⟩,H,I,J,K⟩:=C.out z (aq _ _);go_wp2_with fail
 go_region_held3 (λw'=>(w'.cell? ⟨d,po,none⟩=some (ab y.1.1)/\w'.cell? ⟨d,po+1,none⟩=some (ab y.1.2.1)/\w'.cell? ⟨d,po+2,none⟩=some (af y.1.2.2)/\w'.cell? ⟨d,po+3,none⟩=some (ae y.2.1.1 y.2.2.length y.2.1.2))/\(w'.cell? ⟨d,po+4,none⟩=some (ab x.1.1)/\w'.cell? ⟨d,po+5,none⟩=some (ab x.1.2.1)/\w'.cell? ⟨d,po+6,none⟩=some (af x.1.2.2)/\w'.cell? ⟨d,po+7,none⟩=some (ae x.2.1.1 x.2.2.length x.2.1.2))/\(w'.cell? ⟨d,po+12,none⟩=some (ab t.1.1)/\w'.cell? ⟨d,po+13,none⟩=some (ab t.1.2.1)/\w'.cell? ⟨d,po+14,none⟩=some (af t.1.2.2)/\w'.cell? ⟨d,po+15,none⟩=some (ae t.2.1.1 t.2.2.length t.2.1.2))) (first|with_reducible assumption|with_reducible exact C.out _ B.out|with_reducible exact C.out _ G.out|with_reducible exact C.out _ F.out|with_reducible exact aX.out _ (rC _ _ _ _ _ _ _ _ _ _ _ _ _ _ _)|exact C.out _ (aq _ _).drew)
  ((first
   | (go_at_call 56;refine(aA _ A.drew).mono ?_;rintro e aS ⟨a,rfl,W⟩;have F:=au (cR W.1);clear aA)
   | (go_at_call 56;refine(aC _ (A.trans (F.mono A.size))).mono ?_;rintro e aT ⟨q,rfl,D⟩;have G:=au (F.trans (D.1.mono F.size));clear aC)
   | (go_at_call 56;refine(aD _ (A.trans (G.mono A.size))).mono ?_;rintro e p ⟨g,rfl,E⟩;have B:=au (G.trans (E.1.mono G.size));clear aD;have a1:=au ((B.block (w.heap.size+1) (by omega)).trans a0);obtain⟨⟨a3,d1,a7,a8,a9,ba,bb,bc,bd,be,a4,a5,a6⟩,bx,bC⟩:=ua a1;have aX:=au (λa2 (bi:bP (w.heap.size+1) p a2)=>MX (y:=y) (x:=x) (t:=t) (show d<w.heap.size+1 by omega) bi (C _ B)))))
 go_wp2_with fail;have aW:Hid (ak w p):=A.trans (B.mono A.size);have bA:z.heap.size<=aS.heap.size:=F.size;have bB:z.heap.size<=aT.heap.size:=G.size;have aO:=E.1;have aN:=D.1.trans (E.1.mono D.1.size);have Z:=iY (M:=M) aj ((W.2.1.below aN).mono aN.size) (W.2.2.1.mono λq (aM:z.heap.size<=q)=>(show w.heap.size+1<q by omega)) W.2.2.2;have aa:=iY (M:=M) aj ((D.2.1.below aO).mono aO.size) (D.2.2.1.mono λq (aM:aS.heap.size<=q)=>(show w.heap.size+1<q by omega)) D.2.2.2;have ad:=iY (M:=M) aj E.2.1 (E.2.2.1.mono λq (aM:aT.heap.size<=q)=>(show w.heap.size+1<q by omega)) E.2.2.2;refine az (v:=.tuple #[.agg #[ab a.1.1,ab a.1.2.1,af a.1.2.2,ae a.2.1.1 a.2.2.length a.2.1.2,ab q.1.1,ab q.1.2.1,af q.1.2.2,ae q.2.1.1 q.2.2.length q.2.1.2,ae j X r,ab g.1.1,ab g.1.2.1,af g.1.2.2,ae g.2.1.1 g.2.2.length g.2.1.2],.bool av]) (by simp[results,results144,go_sem,a3,d1,a7,a8,a9,ba,bb,bc,bd,be,a4,a5,a6]) rfl ?_;have e:fk (M+1) ((aY (M+1) (n+1) a,aY (M+1) (n+1) q,aY (M+1) (n+1) g),(j,r),l)=[ab a.1.1,ab a.1.2.1,af a.1.2.2,ae a.2.1.1 a.2.2.length a.2.1.2,ab q.1.1,ab q.1.2.1,af q.1.2.2,ae q.2.1.1 q.2.2.length q.2.1.2,ae j X r,ab g.1.1,ab g.1.2.1,af g.1.2.2,ae g.2.1.1 g.2.2.length g.2.1.2]:=by
  show iy (M+1) (aY (M+1) (n+1) a)++iy (M+1) (aY (M+1) (n+1) q)++(ae j l.length r::iy (M+1) (aY (M+1) (n+1) g))=_;rw[gA,gA,gA,aZ.out];rfl
 have aR:∀w',bP (w.heap.size+1) p w'->jv M o w (.returned (.tuple #[.agg (fk (M+1) ((aY (M+1) (n+1) a,aY (M+1) (n+1) q,aY (M+1) (n+1) g),(j,r),l)).toArray,.bool av])) w':=λw' aK=>by
  obtain⟨bE,bq,br,bs,bt,bu⟩:=aE;have ah:=cN (fO (M+1)) 11 (gi (M+1)) j;have bj:qi p.heap.size p 11 (gi (M+1)) (iJ (M+1) p.heap.size p) j l:=ah.mono B.size (ah.below B bs);have bm:tI (mg (M+1) (λb=>w.heap.size+1<b)) (λb=>w.heap.size+1<b) j l:=ah.1 _ _ _ (λb (bg:w1.heap.size<=b)=>(show w.heap.size+1<b by omega)) bt;have bh:ig (M+1) p.heap.size p ((aY (M+1) (n+1) a,aY (M+1) (n+1) q,aY (M+1) (n+1) g),(j,r),l):=⟨⟨Z.1,aa.1,ad.1⟩,br,bj⟩;have aJ:jY (M+1) (λb=>w.heap.size+1<b) ((aY (M+1) (n+1) a,aY (M+1) (n+1) q,aY (M+1) (n+1) g),(j,r),l):=⟨⟨Z.2.1,aa.2.1,ad.2.1⟩,bm⟩;refine⟨((aY (M+1) (n+1) a,aY (M+1) (n+1) q,aY (M+1) (n+1) g),(j,r),l),av,rfl,aK.below aW (by omega),?_,aK.stays (eE _) (P:=λb=>w.heap.size+1<b) (by omega) aJ bh,(eE _).1 _ _ _ (λb (bg:w.heap.size+1<b)=>(show w.heap.size<=b by omega)) aJ,λbF aQ=>?_⟩
  ·rw[bq,aL.out];cases ar<;>rfl
  ·rw[aL.out]at aQ;obtain⟨bv,bk,rfl⟩:=cw.1 aQ;exact⟨⟨Z.2.2,aa.2.2,ad.2.2⟩,bu bv bk⟩
 rw[e]at aR;exact aR _ (rC _ _ _ _ _ _ _ _ _ _ _ _ _ _ _)
theorem vL(M n:Nat)(au:n<=M+1)(x:Tm n)(B:Nat)(w:ag)(K:In B w n x)(ad:aI ⟨n,x⟩)(g:B<=w.heap.size):am 144 #[dw n x] w (jv M (zK M n x) w):=by
 cases n with
 | zero=>exact K.elim
 | succ n=>
 obtain⟨G,c,i,ar,aq,m⟩:=rM n x B w K g;show am 144 #[.agg #[ab x.1.1,ab x.1.2.1,af x.1.2.2,ae x.2.1.1 x.2.2.length x.2.1.2]] w (jv M (sL M n (fl n x) (bS n x)) w);have r:∀e∈bS n x,aI ⟨n,e⟩:=λe j=>eG ad j;generalize fl n x=b at*;generalize bS n x=d at*;have F:tg b LB=(b.toList==[111,110]):=nD b [111,110];have get:∀k,k<d.length->∃e,d[k]?=some e:=λk v=>⟨d[k],aM v⟩;by_cases f:(b.toList==[111,110])=true
 ·by_cases q:d.length=4
  ·obtain⟨e,j⟩:=get 0 (by omega);obtain⟨u,D⟩:=get 1 (by omega);obtain⟨a,y⟩:=get 2 (by omega);obtain⟨t,C⟩:=get 3 (by omega);have h:sL M n b d=if b8 ⟨n,a⟩=4 then (cQ (sK M (n-1)) (ER n a)).map λl=>((aY (M+1) n e,aY (M+1) n u,aY (M+1) n t),(none,0),l)else none:=by
    unfold sL;rw[if_pos (by rw[F,f,q];rfl),j,D,y,C];rfl
   rw[q]at m;obtain⟨N,po,rfl⟩:=rE i (by omega);cases n with
   | zero=>exact(sh i j).elim
   | succ n=>
   obtain⟨⟨O,P,Q,R⟩,ai,av⟩:=iu i j;obtain⟨⟨S,d1,T,U⟩,aj,_⟩:=iu i D;obtain⟨⟨L,ak,al,an⟩,I,_⟩:=iu i y;obtain⟨⟨V,W,X,Y⟩,ah,_⟩:=iu i C;by_cases o:a.1.1=4
   ·have A:sL M (n+1) b d=(cQ (sK M n) a.2.2).map λl=>((aY (M+1) (n+1) e,aY (M+1) (n+1) u,aY (M+1) (n+1) t),(none,0),l):=by
      rw[h,if_pos (show b8 ⟨n+1,a⟩=4 from o)];rfl
    have J:=r a (aN y);have aa:a.2.2.length<=8:=by
     exact mL J o
    exact tQ M n _ _ _ _ _ _ b N po c w e u a t (by omega) (cQ (sK M n) a.2.2) _ A f (by omega) (by simpa using O) (by simpa using P) (by simpa using Q) (by simpa using R) (by simpa using S) (by simpa using d1) (by simpa using T) (by simpa using U) (by simpa using L) (by simpa using ak) (by simpa using al) (by simpa using an) (by simpa using V) (by simpa using W) (by simpa using X) (by simpa using Y) o m
     (λao p=>zR M n a.2.2 a.2.2.length rfl aa a.2.1.1 a.2.1.2 B ao ((show fM B w n a.2.2 a.2.1.1 from I.2).below (p.mono g)) (aD g p.size) (λE s ap Z=>by
      have H:=p.trans (Z.mono p.size);obtain⟨k,v⟩:=dd s;rcases I.2 with z|⟨_,_,_,_,z⟩
      ·rw[z]at s;cases s
      ·exact B5 M n (by omega) E B ap ((z k E v).2.below (H.mono g)) (bf n a E J s) (aD g H.size)))
     (mw ai (r e (aN j)) g) (mw aj (r u (aN D)) g) (mw ah (r t (aN C)) g)
   ·have A:sL M (n+1) b d=none:=by rw[h,if_neg (show¬b8 ⟨n+1,a⟩=4 from o)]
    exact tP M n _ _ _ _ _ _ b N po c w _ A f (by omega) a.1.1 (by simpa using L) (by simpa using o) m
  ·have h:sL M n b d=none:=by simp[sL,q]
   exact vM M n _ _ _ _ _ _ b G d.length c w _ h f (vp q) (by simp;omega) m
 replace f:=oO f;have h:sL M n b d=none:=by simp[sL,F,f]
 exact tR M n _ _ _ _ _ _ b G d.length c w _ h f m
abbrev pS(M:Nat)(o:Option (Bh (M+1)))(w:ag)(e:Ending)(w':ag):Prop:=qW (pN (M+1)) (pJ (M+1)) (jX (M+1)) (yN (M+1)) o w e w'
theorem xO{x:Tm (n+1)}(b:aI ⟨n+1,x⟩):(bS n x).length<=8:=by
 unfold bS;split
 ·rename_i a;have:=mL b a;split
  ·split
   ·rw[fj];omega
   ·simp
  ·simp
 ·simp
theorem Kg{a:Tm (n+1)}(d:aI ⟨n+1,a⟩)(b:a.1.1=2):a.1.2.2.size<=2048:=by
 have:=d (bI n a) (by simp[aC,bI]);have c:dV a.1.2.2=true:=by
  simp only[cJ,bI,b]at this;simp at this;exact this.1.1
 simp only[dV,qP,aK,co]at c;omega
theorem Bt{B:Nat}{q:List (Tm n)}{a:aw}(b:fM B w n q a){y:Tm n}(c:y∈q):In B w n y:=by
 rcases b with b|⟨_,_,_,_,b⟩
 ·subst b;cases c
 ·obtain⟨e,d⟩:=dd c;exact(b e y d).2
theorem qB{o:Option (Bh (M+1))}(b:o=none)(a:ak w w'):pS M o w (.returned (.tuple #[.agg #[af .empty,ae none 0 0],.bool false])) w':=by
 subst b;exact⟨(.empty,(none,0),[]),false,rfl,a,rfl,⟨aL _,⟨ao _,aL _⟩,ai rfl⟩,ai rfl,λd c=>by cases c⟩
theorem zV(M _n:Nat)(k u:Int)(s:ap)(xa:aw)(j xc:Nat)(i:ap)(a:aw)(len c:Nat)(w:ag)(o:Option (Bh (M+1)))(n:Hid (o=none))(r:(i.toList==[98,101,104])=false)(d:Hid (∀w1,ak w w1->am 104 #[.agg #[ab k,ab u,af s,ae xa j xc]] w1 λe w'=>e=.returned (.tuple #[af i,ae a len c])/\ak w1 w')):am 106 #[.agg #[ab k,ab u,af s,ae xa j xc]] w (pS M o w):=by
 go_enter func106,ntmps106;go_wp2_with fail;refine(d _ (by go_grown)).mono ?_;rintro e w1 ⟨rfl,f⟩;obtain⟨p,h,g,y⟩:=eH f;have l:=au g;have b:=au h;clear f p h g d;have m:w1.cell? ⟨w.heap.size+1,0,none⟩=some (af ⟨#[]⟩):=ay b 0;have d1:w1.cell? ⟨w.heap.size+1,1,none⟩=some (ae none 0 0):=ay b 1;have t:=λq=>dc b q;have x:w.heap.size+1<w1.heap.size:=(aJ.1 b).1;go_wp2_with fail;exact az (v:=.tuple #[.agg #[af .empty,ae none 0 0],.bool false]) (by simp[results,results106,go_sem,m,d1];rfl) rfl (qB n ((bP.set (bP.set (bP.refl _ _) _ _) _ _).below l (by omega)))
theorem B7(M _n:Nat)(k u:Int)(s:ap)(xa:aw)(j xc:Nat)(i:ap)(a:aw)(len c:Nat)(w:ag)(o:Option (Bh (M+1)))(n:Hid (o=none))(r:(i.toList==[98,101,104])=true)(x:(len:Int)<1)(d:Hid (∀w1,ak w w1->am 104 #[.agg #[ab k,ab u,af s,ae xa j xc]] w1 λe w'=>e=.returned (.tuple #[af i,ae a len c])/\ak w1 w')):am 106 #[.agg #[ab k,ab u,af s,ae xa j xc]] w (pS M o w):=by
 go_enter func106,ntmps106;go_wp2_with fail;refine(d _ (by go_grown)).mono ?_;rintro e w1 ⟨rfl,f⟩;obtain⟨p,h,g,z⟩:=eH f;have l:=au g;have b:=au h;clear f p h g d;have m:w1.cell? ⟨w.heap.size+1,0,none⟩=some (af ⟨#[]⟩):=ay b 0;have d1:w1.cell? ⟨w.heap.size+1,1,none⟩=some (ae none 0 0):=ay b 1;have t:=λq=>dc b q;have y:w.heap.size+1<w1.heap.size:=(aJ.1 b).1;go_wp2_with fail;exact az (v:=.tuple #[.agg #[af .empty,ae none 0 0],.bool false]) (by simp[results,results106,go_sem,m,d1];rfl) rfl (qB n ((bP.set (bP.set (bP.refl _ _) _ _) _ _).below l (by omega)))
theorem zS(M _n:Nat)(k u:Int)(s:ap)(xa:aw)(n xc:Nat)(m:ap)(b po len c:Nat)(w:ag)(o:Option (Bh (M+1)))(q:Hid (o=none))(y:(m.toList==[98,101,104])=true)(B:¬(len:Int)<1)(C:(0:Int)<(len:Int))(r:b<w.heap.size)(l:Int)(g:w.cell? ⟨b,po,none⟩=some (ab l))(A:(l !=2)=true)(f:Hid (∀w1,ak w w1->am 104 #[.agg #[ab k,ab u,af s,ae xa n xc]] w1 λe w'=>e=.returned (.tuple #[af m,ae (some ⟨b,po,none⟩) len c])/\ak w1 w')):am 106 #[.agg #[ab k,ab u,af s,ae xa n xc]] w (pS M o w):=by
 go_enter func106,ntmps106;go_wp2_with fail;refine(f _ (by go_grown)).mono ?_;rintro e w1 ⟨rfl,h⟩;obtain⟨t,j,i,F⟩:=eH h;have d:=au i;have a:=au j;clear h t j i f;replace g:=(ax d _ _ r).trans g;have D:b<w1.heap.size:=by omega
 have p:w1.cell? ⟨w.heap.size+1,0,none⟩=some (af ⟨#[]⟩):=ay a 0;have d1:w1.cell? ⟨w.heap.size+1,1,none⟩=some (ae none 0 0):=ay a 1;have z:=λx=>dc a x;have E:w.heap.size+1<w1.heap.size:=(aJ.1 a).1;go_wp2_with fail;exact az (v:=.tuple #[.agg #[af .empty,ae none 0 0],.bool false]) (by simp[results,results106,go_sem,p,d1];rfl) rfl (qB q ((bP.set (bP.set (bP.refl _ _) _ _) _ _).below d (by omega)))
theorem B8(M _n:Nat)(k u:Int)(s:ap)(xa:aw)(S xc:Nat)(R:ap)(d po:Nat)(w:ag)(y2:ap)(ah:y2.size<=2048)(t:Option (List (Cl (M+1))))(o:Option (Bh (M+1)))(K:Hid (o=t.map λl=>(y2,(none,0),l)))(aA:(R.toList==[98,101,104])=true)(L:d<w.heap.size)(m:w.cell? ⟨d,po,none⟩=some (ab 2))(n:w.cell? ⟨d,po+2,none⟩=some (af y2))(D:Hid (∀w1,ak w w1->am 104 #[.agg #[ab k,ab u,af s,ae xa S xc]] w1 λe w'=>e=.returned (.tuple #[af R,ae (some ⟨d,po,none⟩) 1 1])/\ak w1 w'))(z:Hid (∀w1,ak w w1->am 143 #[ae (some ⟨d,po,none⟩) 0 0,.func (Fn.func 144) #[] #[]] w1 (lK 13 (fk (M+1)) (ig (M+1)) (jY (M+1)) (CR (M+1)) t w1))):am 106 #[.agg #[ab k,ab u,af s,ae xa S xc]] w (pS M o w):=by
 go_enter func106,ntmps106;go_wp2_with fail;refine(D _ (by go_grown)).mono ?_;rintro e w1 ⟨rfl,G⟩;obtain⟨ad,O,H,aF⟩:=eH G;have f:=au H;have E:=au O;clear G ad O H D;replace m:=(ax f _ _ L).trans m;replace n:=(ax f _ _ L).trans n;have N:d<w1.heap.size:=by omega
 go_wp2_with fail;refine(z _ f).mono ?_;rintro e y ⟨l,c,i,x,rfl,C⟩;have g:=au C.1;have A:Hid (ak w y):=f.trans (g.mono f.size);have F:=au ((g.block (w.heap.size+1) (by omega)).trans E);have aC:w1.heap.size<=y.heap.size:=g.size;have aD:d<y.heap.size:=by omega
 replace m:=(ax g _ _ N).trans m;replace n:=(ax g _ _ N).trans n;obtain⟨j,r⟩:∃j,l.length=j:=⟨_,rfl⟩;rw[r];have U:=au r;clear z E r;go_wp2_with fail;refine(dW _ _ ah).mono ?_;rintro e a ⟨rfl,p⟩;have B:=au p;have T:Hid (ak w a):=A.trans (p.mono A.size);have h:=au ((p.block (w.heap.size+1) (by omega)).trans F);have V:a.cell? ⟨w.heap.size+1,0,none⟩=some (af ⟨#[]⟩):=ay h 0;have d1:a.cell? ⟨w.heap.size+1,1,none⟩=some (ae none 0 0):=ay h 1;have aB:=λai=>dc h ai;have aE:w.heap.size+1<a.heap.size:=(aJ.1 h).1;clear p F h;go_wp2_with fail;refine az (v:=.tuple #[.agg #[af y2,ae c j i],.bool x]) (by simp[results,results106,go_sem,V,d1]) rfl ?_;have ar:∀w',bP (w.heap.size+1) a w'->pS M o w (.returned (.tuple #[.agg #[af y2,ae c j i],.bool x])) w':=λw' J=>by
  obtain⟨aG,aj,al,an,ao,aq⟩:=C;have q:=cN (eE (M+1)) 13 (fk (M+1)) c;have Y:qi a.heap.size a 13 (fk (M+1)) (ig (M+1) a.heap.size a) c l:=q.mono B.size (q.below B an);have aa:tI (jY (M+1) (λb=>w.heap.size+1<b)) (λb=>w.heap.size+1<b) c l:=q.1 _ _ _ (λb (W:w1.heap.size<=b)=>(show w.heap.size+1<b by omega)) ao;have X:pJ (M+1) a.heap.size a (y2,(c,i),l):=⟨(show y2.size<=maxLen by unfold maxLen;omega),al,Y⟩;have I:jX (M+1) (λb=>w.heap.size+1<b) (y2,(c,i),l):=aa;refine⟨(y2,(c,i),l),x,by rw[<-U.out];rfl,J.below T (by omega),?_,J.stays (ed _) (P:=λb=>w.heap.size+1<b) (by omega) I X,(ed _).1 _ _ _ (λb (W:w.heap.size+1<b)=>(show w.heap.size<=b by omega)) I,λaH Q=>?_⟩
  ·rw[aj,K.out];cases t<;>rfl
  ·rw[K.out]at Q;obtain⟨av,Z,rfl⟩:=cw.1 Q;exact⟨rfl,aq av Z⟩
 exact ar _ (bP.set (bP.set (bP.refl _ _) _ _) _ _)
theorem zU(M _n:Nat)(k u:Int)(s:ap)(xa:aw)(V xc:Nat)(U:ap)(f po L c:Nat)(w:ag)(y2:ap)(aj:y2.size<=2048)(x:Option (List (Cl (M+1))))(o:Option (Bh (M+1)))(O:Hid (o=x.map λl=>(y2,(none,0),l)))(aC:(U.toList==[98,101,104])=true)(Q:f<w.heap.size)(_hl:¬(L:Int)<1)(N:(0:Int)<(L:Int))(aG:(1:Int)<=(L:Int))(_hlc:(L:Int)<=(c:Int))(aF:¬c=1)(_hcm:(c:Int)<=9223372036854775807)(n:w.cell? ⟨f,po,none⟩=some (ab 2))(p:w.cell? ⟨f,po+2,none⟩=some (af y2))(E:Hid (∀w1,ak w w1->am 104 #[.agg #[ab k,ab u,af s,ae xa V xc]] w1 λe w'=>e=.returned (.tuple #[af U,ae (some ⟨f,po,none⟩) L c])/\ak w1 w'))(A:Hid (∀w1,ak w w1->am 143 #[ae (some ⟨f,po+4,none⟩) (L-1) (c-1),.func (Fn.func 144) #[] #[]] w1 (lK 13 (fk (M+1)) (ig (M+1)) (jY (M+1)) (CR (M+1)) x w1))):am 106 #[.agg #[ab k,ab u,af s,ae xa V xc]] w (pS M o w):=by
 go_enter func106,ntmps106;go_wp2_with fail;refine(E _ (by go_grown)).mono ?_;rintro e w1 ⟨rfl,H⟩;obtain⟨ai,S,I,aK⟩:=eH H;have g:=au I;have F:=au S;clear H ai S I E;replace n:=(ax g _ _ Q).trans n;replace p:=(ax g _ _ Q).trans p;have R:f<w1.heap.size:=by omega
 go_wp2_with fail;refine(A _ g).mono ?_;rintro e z ⟨l,d,j,y,rfl,D⟩;have h:=au D.1;have B:Hid (ak w z):=g.trans (h.mono g.size);have G:=au ((h.block (w.heap.size+1) (by omega)).trans F);have aE:w1.heap.size<=z.heap.size:=h.size;have aH:f<z.heap.size:=by omega
 replace n:=(ax h _ _ R).trans n;replace p:=(ax h _ _ R).trans p;obtain⟨m,t⟩:∃m,l.length=m:=⟨_,rfl⟩;rw[t];have X:=au t;clear A F t;go_wp2_with fail;refine(dW _ _ aj).mono ?_;rintro e a ⟨rfl,q⟩;have C:=au q;have W:Hid (ak w a):=B.trans (q.mono B.size);have i:=au ((q.block (w.heap.size+1) (by omega)).trans G);have Y:a.cell? ⟨w.heap.size+1,0,none⟩=some (af ⟨#[]⟩):=ay i 0;have d1:a.cell? ⟨w.heap.size+1,1,none⟩=some (ae none 0 0):=ay i 1;have aD:=λal=>dc i al;have aI:w.heap.size+1<a.heap.size:=(aJ.1 i).1;clear q G i;go_wp2_with fail;refine az (v:=.tuple #[.agg #[af y2,ae d m j],.bool y]) (by simp[results,results106,go_sem,Y,d1]) rfl ?_;have aA:∀w',bP (w.heap.size+1) a w'->pS M o w (.returned (.tuple #[.agg #[af y2,ae d m j],.bool y])) w':=λw' K=>by
  obtain⟨aL,an,ao,aq,ar,av⟩:=D;have r:=cN (eE (M+1)) 13 (fk (M+1)) d;have ad:qi a.heap.size a 13 (fk (M+1)) (ig (M+1) a.heap.size a) d l:=r.mono C.size (r.below C aq);have ah:tI (jY (M+1) (λb=>w.heap.size+1<b)) (λb=>w.heap.size+1<b) d l:=r.1 _ _ _ (λb (Z:w1.heap.size<=b)=>(show w.heap.size+1<b by omega)) ar;have aa:pJ (M+1) a.heap.size a (y2,(d,j),l):=⟨(show y2.size<=maxLen by unfold maxLen;omega),ao,ad⟩;have J:jX (M+1) (λb=>w.heap.size+1<b) (y2,(d,j),l):=ah;refine⟨(y2,(d,j),l),y,by rw[<-X.out];rfl,K.below W (by omega),?_,K.stays (ed _) (P:=λb=>w.heap.size+1<b) (by omega) J aa,(ed _).1 _ _ _ (λb (Z:w.heap.size+1<b)=>(show w.heap.size<=b by omega)) J,λaM T=>?_⟩
  ·rw[an,O.out];cases x<;>rfl
  ·rw[O.out]at T;obtain⟨aB,N,rfl⟩:=cw.1 T;exact⟨rfl,av aB N⟩
 exact aA _ (bP.set (bP.set (bP.refl _ _) _ _) _ _)
theorem B6(M n:Nat)(Z:n<=M+1)(x:Tm n)(B:Nat)(w:ag)(K:In B w n x)(H:aI ⟨n,x⟩)(p:B<=w.heap.size):am 106 #[dw n x] w (pS M (zJ M n x) w):=by
 cases n with
 | zero=>exact K.elim
 | succ n=>
 obtain⟨D,c,h,S,Y,k⟩:=rM n x B w K p;show am 106 #[.agg #[ab x.1.1,ab x.1.2.1,af x.1.2.2,ae x.2.1.1 x.2.2.length x.2.1.2]] w (pS M (tO M n (fl n x) (bS n x)) w);have I:∀d∈bS n x,aI ⟨n,d⟩:=λd U=>eG H U;have R:(bS n x).length<=8:=xO H;generalize fl n x=e at*;generalize bS n x=a at*;have A:tg e tY=(e.toList==[98,101,104]):=nD e [98,101,104];by_cases f:(e.toList==[98,101,104])=true
 ·cases a with
  | nil=>
   have g:tO M n e []=none:=by simp[tO]
   exact B7 M n _ _ _ _ _ _ e D 0 c w _ g f (by omega) k
  | cons d a=>
   obtain⟨q,po,rfl⟩:=rE h (by simp);cases n with
   | zero=>exact(sh h (show (d::a)[0]?=some d from rfl)).elim
   | succ n=>
   obtain⟨⟨m,W,E,X⟩,ad,aa⟩:=iu h (show (d::a)[0]?=some d from rfl);by_cases i:d.1.1=2
   ·have g:tO M (n+1) e (d::a)=(cQ (zK M (n+1)) a).map λl=>(d.1.2.2,(none,0),l):=by
      simp[tO,A,f,b8,i,xC,gu,bI]
    have J:d.1.2.2.size<=2048:=Kg (I d (by simp)) i;have G:fM B w (n+1) a (some ⟨q,po+4,none⟩):=by
     rcases h with h|⟨b,o,v,t,h⟩
     ·cases h
     ·injection v with v;injection v with O P;subst O P
      exact aj ⟨q,po+4,rfl,t,λz j y=>by
       have:=h (z+1) j (by simpa using y);rw[show po+4+z*4=po+(z+1)*4 by omega]
       exact this⟩
    have C:∀(j:aw)(u:Nat),fM B w (n+1) a j->∀r,ak w r->am 143 #[ae j a.length u,.func (Fn.func 144) #[] #[]] r (lK 13 (fk (M+1)) (ig (M+1)) (jY (M+1)) (CR (M+1)) (cQ (zK M (n+1)) a) r):=λj u y r s=>
     tS M (n+1) a a.length rfl (by simp at R;omega) j u B r (y.below (s.mono p)) (aD p s.size) (λN L V Q=>by
      have t:=s.trans (Q.mono s.size)
      exact vL M (n+1) (by omega) N B V ((Bt G L).below (t.mono p)) (I N (by simp[L])) (aD p t.size))
    by_cases F:c=1
    ·have T:a=[]:=bJ (by simp at S;omega);subst T F;exact B8 M (n+1) _ _ _ _ _ _ e q po w d.1.2.2 J _ _ g f (by omega) (by rw[i]at m;simpa using m) (by simpa using E) k (C _ 0 (ai rfl))
    ·exact zU M (n+1) _ _ _ _ _ _ e q po (d::a).length c w d.1.2.2 J _ _ g f (by omega) (by simp only[br];omega) (by simp only[br];omega) (by simp only[br];omega) (by omega) F (by omega) (by rw[i]at m;simpa using m) (by simpa using E) k (C _ (c-1) G)
   ·have g:tO M (n+1) e (d::a)=none:=by simp[tO,b8,i]
    exact zS M (n+1) _ _ _ _ _ _ e q po (d::a).length c w _ g f (by simp only[br];omega) (by simp only[br];omega) (by omega) d.1.1 (by simpa using m) (by simpa using i) k
 replace f:=oO f;have g:tO M n e a=none:=by simp[tO,A,f]
 exact zV M n _ _ _ _ _ _ e D a.length c w _ g f k
abbrev uw(M:Nat)(o:Option (List (Bh (M+1))))(w:ag)(e:Ending)(w':ag):Prop:=lK 2 (pN (M+1)) (pJ (M+1)) (jX (M+1)) (yN (M+1)) o w e w'
theorem BZ{o:Option (List (Bh (M+1)))}(b:o=none)(a:ak w w'):uw M o w (.returned (.tuple #[ae none 0 0,.bool false])) w':=by
 subst b;exact⟨[],none,0,false,rfl,a,rfl,⟨ao _,aL _⟩,ai rfl,ai rfl,λd c=>by cases c⟩
theorem wQ(M _n:Nat)(k u:Int)(s:ap)(xa:aw)(t xc:Nat)(r:ap)(a:aw)(len c:Nat)(w:ag)(o:Option (List (Bh (M+1))))(b:Bool)(H:(r.toList==[99,111,100,101])=b)(p:Hid (b=false->o=none))(m:Hid (∀w1,ak w w1->am 104 #[.agg #[ab k,ab u,af s,ae xa t xc]] w1 λe w'=>e=.returned (.tuple #[af r,ae a len c])/\ak w1 w'))(j:Hid (b=true->∀w1,ak w w1->am 105 #[ae a len c,.func (Fn.func 106) #[] #[]] w1 (uw M o w1))):am 67 #[.agg #[ab k,ab u,af s,ae xa t xc]] w (uw M o w):=by
 cases b
 ·have HB:Hid (o=none):=p rfl;go_enter func67,ntmps67;go_wp2_with fail;refine(m _ (by go_grown)).mono ?_;rintro e w1 ⟨rfl,f⟩;have d:Hid (ak w w1):=aV.trans (f.mono (by simp));clear f;go_wp2_with fail;exact az (v:=.tuple #[ae none 0 0,.bool false]) (by simp[results,results67,go_sem]) rfl (BZ HB d)
 ·have x:=au (j rfl);clear j p;go_enter func67,ntmps67;go_wp2_with fail;refine(m _ (by go_grown)).mono ?_;rintro e w1 ⟨rfl,f⟩;have d:Hid (ak w w1):=aV.trans (f.mono (by simp));clear f;go_wp2_with fail;refine(x _ d).mono ?_;rintro e I ⟨l,h,n,q,rfl,y⟩;obtain⟨g,i⟩:∃g,l.length=g:=⟨_,rfl⟩;rw[i];have z:=au i;clear i;go_wp2_with fail;refine az (v:=.tuple #[ae h g n,.bool q]) (by simp[results,results67,go_sem]) rfl ?_;obtain⟨B,C,D,E,F,G⟩:=y;exact⟨l,h,n,q,by rw[z.out],d.trans (B.mono d.size),C,D,E,(cN (ed _) 2 (pN (M+1)) h).1 _ _ _ (λb A=>aD d.size A) F,G⟩
theorem zW(M n:Nat)(A:n<=M+1)(x:Tm n)(B:Nat)(w:ag)(j:In B w n x)(i:aI ⟨n,x⟩)(a:B<=w.heap.size):am 67 #[dw n x] w (uw M (BX M n x) w):=by
 cases n with
 | zero=>exact j.elim
 | succ n=>
 obtain⟨f,c,h,z,y,o⟩:=rM n x B w j a;have s:∀l∈bS n x,aI ⟨n,l⟩:=λl t=>eG i t;have r:(bS n x).length<=8:=xO i;have e:tg (fl n x) nU=((fl n x).toList==[99,111,100,101]):=nD _ [99,111,100,101];refine wQ M n _ _ _ _ _ _ (fl n x) f (bS n x).length c w (BX M (n+1) x) _ rfl (λd=>?_) o (λd u b=>?_)
 ·simp only[BX,e,d];rfl
 ·have p:BX M (n+1) x=cQ (zJ M n) (bS n x):=by simp only[BX,e,d];rfl
  rw[p]
  exact qC M n (bS n x) (bS n x).length rfl r f c B u (h.below (b.mono a)) (aD a b.size) (λm k v q=>by
   have g:=b.trans (q.mono b.size)
   exact B6 M n (by omega) m B v ((Bt h k).below (g.mono a)) (s m k) (aD a g.size))
theorem A3(b:s.toList.isEmpty=true):s=.empty:=by
 apply uE;have a:ByteArray.empty.toList=[]:=by rw[cE];rfl
 rw[a];simpa using b
theorem xV{x:Tm (n+1)}(f:aI ⟨n+1,x⟩)(c:x.1.1=4):x.1=(4,0,.empty):=by
 have a:=f (bI n x) (by simp[aC,bI]);unfold cJ at a;have b:(bI n x).1.1=4:=c;rw[if_neg (by rw[b];omega),if_neg (by rw[b];omega),if_neg (by rw[b];omega),if_pos b]at a;simp only[aK,cF]at a;have d:x.1.2.2=.empty:=A3 a.1.1.1;have e:x.1.2.1=0:=a.1.1.2;exact fC c (fC e d)
theorem qD{x:Tm (n+1)}(g:aI ⟨n+1,x⟩)(d:x.1.1=2):x.1=(2,0,x.1.2.2)/\x.2.2=[]/\dV x.1.2.2=true:=by
 have b:=g (bI n x) (by simp[aC,bI]);unfold cJ at b;have c:(bI n x).1.1=2:=d;rw[if_neg (by rw[c];omega),if_pos c]at b;simp only[aK,iB,cF]at b;obtain⟨⟨f,e⟩,a⟩:=b;refine⟨fC d (fC e rfl),?_,f⟩;rcases a with a|a
 ·rw[c]at a;omega
 ·have h:¬(0:Int)<(x.2.2.length:Int):=by simpa [bI]using a
  exact bJ (by omega)
theorem xW{x:Tm (n+1)}(g:aI ⟨n+1,x⟩)(d:x.1.1=5):x.1=(5,x.1.2.1,.empty)/\x.2.2=[]/\0<=x.1.2.1/\x.1.2.1<=3:=by
 have c:=g (bI n x) (by simp[aC,bI]);unfold cJ at c;have a:(bI n x).1.1=5:=d;rw[if_neg (by rw[a];omega),if_neg (by rw[a];omega),if_neg (by rw[a];omega),if_neg (by rw[a];omega),if_pos a]at c;simp only[aK,iB,cF,qP,co]at c;obtain⟨⟨f,e⟩,b⟩:=c;refine⟨fC d (fC rfl (A3 f)),?_,e⟩;rcases b with b|b
 ·rw[a]at b;omega
 ·have h:¬(0:Int)<(x.2.2.length:Int):=by simpa [bI]using b
  exact bJ (by omega)
theorem sn{x:Tm (n+1)}(d:aI ⟨n+1,x⟩)(b:x.1.1=2)(N:Nat):aB (N+1) (bq x.1.2.2 N) (n+1) x=true:=by
 obtain⟨a,c,_⟩:=qD d b;refine dh a.symm ?_;rw[c];rfl
theorem Li{x:Tm (n+1)}(d:aI ⟨n+1,x⟩)(c:x.1.1=5)(N:Nat):aB (N+1) (bT 5 x.1.2.1 N) (n+1) x=true:=by
 obtain⟨a,b,_⟩:=xW d c;refine dh a.symm ?_;rw[b];rfl
theorem gP{x:Tm (n+1)}(j:aI ⟨n+1,x⟩)(o:tg (fl n x) d=true)(b:d.toList≠[]):x.1=(4,0,.empty)/\∃i,x.2.2=i::bS n x/\∀N,aB (N+1) (bq d N) n i=true:=by
 have g:ByteArray.empty.toList=[]:=by rw[cE];rfl
 have a:fl n x=d:=uE o;unfold fl at a;by_cases f:x.1.1=4
 ·rw[if_pos f]at a;refine⟨xV j f,?_⟩;obtain⟨⟨k,r,q⟩,⟨p,c⟩,l⟩:=x;simp only at f a;subst f;cases l with
  | nil=>
   simp at a;rw[<-a,g]at b;exact(b rfl).elim
  | cons e l=>
   simp only[cW]at a;cases n with
   | zero=>
    simp[b8]at a;rw[<-a,g]at b;exact(b rfl).elim
   | succ n=>
    by_cases h:e.1.1=2
    ·refine⟨e,by simp[bS,b8,h],λN=>?_⟩;have m:d=e.1.2.2:=by
      rw[if_pos (show b8 ⟨n+1,e⟩=2 from h)]at a;exact a.symm
     rw[m];exact sn (bf (n+1) _ e j (by simp)) h N
    ·rw[if_neg (show¬b8 ⟨n+1,e⟩=2 from h)]at a;rw[<-a,g]at b;exact(b rfl).elim
 ·rw[if_neg f]at a;rw[<-a,g]at b;exact(b rfl).elim
theorem nN(l:List UInt8)(a:l≠[]):(⟨l.toArray⟩:ap).toList≠[]:=by rw[ky];exact a
theorem mI(a:n<=M+1){y:Tm n}(b:aI ⟨n,y⟩):aB (M+1) (aY (M+1) n y) n y=true:=mD (M+1) n a y (fH n y b)
theorem Kb(b:l.length=1)(c:l[0]?=some a):l=[a]:=by
 match l,b with
 | [x],_=>simpa using c
theorem Kc(f:l.length=2)(c:l[0]?=some a)(d:l[1]?=some b):l=[a,b]:=by
 match l,f with
 | [x,y],_=>
  simp at c d;rw[c,d]
theorem DG(h:l.length=3)(d:l[0]?=some a)(f:l[1]?=some b)(g:l[2]?=some c):l=[a,b,c]:=by
 match l,h with
 | [x,y,z],_=>
  simp at d f g;rw[d,f,g]
theorem GP{d:e}(j:l.length=4)(f:l[0]?=some a)(g:l[1]?=some b)(h:l[2]?=some c)(i:l[3]?=some d):l=[a,b,c,d]:=by
 match l,j with
 | [x,y,z,t],_=>
  simp at f g h i;rw[f,g,h,i]
theorem KA(M:Nat):(n:Nat)->n<=M+1->(x:Tm n)->aI ⟨n,x⟩->(a:Ac (M+1))->sK M n x=some a->aB (M+2) (cq M a) n x=true/\nW (M+1) a=true
 | 0,_,_,hr,_,_=>(dq hr).elim
 | n+1,hn,x,hr,a,h=>by
  have e:∀y∈bS n x,aI ⟨n,y⟩:=λy E=>eG hr E;have w:e9 (M+1) (zT M)=true:=by
   have t:ByteArray.empty.toList=[]:=by rw[cE];rfl
   simp[e9,gu,bI,zT,t]
  have u:wO .empty 0=true:=by
   have t:ByteArray.empty.toList=[]:=by rw[cE];rfl
   simp[wO,t]
  have get:∀(d:List (Tm n))(s:Nat),s<d.length->∃y,d[s]?=some y/\y∈d:=λd s z=>⟨d[s],aM z,jM z⟩;simp only[sK,jT]at h;split at h
  ·rename_i b;simp only[aK,co]at b;obtain⟨k,j,l,m⟩:=gP hr b.1 (nN [115,101,110,100] (by simp));obtain⟨c,f,p⟩:=get _ 0 (by rw[b.2];omega);obtain⟨d,q,v⟩:=get _ 1 (by rw[b.2];omega);rw[f,q]at h;have i:a=(1,(aY (M+1) n c,aY (M+1) n d),(.empty,0)):=by simpa using h.symm
   have o:bS n x=[c,d]:=Kc b.2 f q;subst i;refine⟨dh k.symm ?_,u⟩;rw[l,o];show aG _ [bq mR M,aY (M+1) n c,aY (M+1) n d] [j,c,d]=true;simp only[aG,m M,mI (M:=M) (by omega) (e c p),mI (M:=M) (by omega) (e d v),iA]
  split at h
  ·rename_i b;simp only[aK,co]at b;obtain⟨k,j,l,m⟩:=gP hr b.1 (nN [115,112,97,119,110] (by simp));obtain⟨c,f,p⟩:=get _ 0 (by rw[b.2];omega);obtain⟨d,q,v⟩:=get _ 1 (by rw[b.2];omega);obtain⟨g,B,A⟩:=get _ 2 (by rw[b.2];omega);rw[f,q,B]at h;simp only[dG,zM]at h;split at h
   ·rename_i r;have i:a=(2,(zT M,aY (M+1) n d),(xC n c,pO n g)):=by simpa using h.symm
    have o:bS n x=[c,d,g]:=DG b.2 f q B;subst i;cases n with
    | zero=>exact(dq (e c p)).elim
    | succ n=>
    have D:=xW (e g A) r.2;have C:=qD (e c p) r.1;refine⟨dh k.symm ?_,?_⟩
    ·rw[l,o];show aG _ [bq jj M,bq c.1.2.2 M,aY (M+1) (n+1) d,bT 5 g.1.2.1 M] [j,c,d,g]=true;simp only[aG,m M,mI (M:=M) (by omega) (e d v),sn (e c p) r.1 M,Li (e g A) r.2 M,iA]
    ·show (e9 (M+1) (zT M) && dV c.1.2.2 && decide (0<=g.1.2.1) && decide (g.1.2.1<4))=true;rw[w,C.2.2,ie D.2.2.1,ie (by omega)];rfl
   ·cases h
  split at h
  ·rename_i b;simp only[aK,co]at b;obtain⟨k,j,l,m⟩:=gP hr b.1 (nN [108,105,110,107] (by simp));obtain⟨c,f,p⟩:=get _ 0 (by rw[b.2];omega);rw[f]at h;have i:a=(3,(aY (M+1) n c,zT M),(.empty,0)):=by simpa using h.symm
   have o:bS n x=[c]:=Kb b.2 f;subst i;refine⟨dh k.symm ?_,?_⟩
   ·rw[l,o];show aG _ [bq mQ M,aY (M+1) n c] [j,c]=true;simp only[aG,m M,mI (M:=M) (by omega) (e c p),iA]
   ·show (e9 (M+1) (zT M) && wO .empty 0)=true;rw[w,u];rfl
  split at h
  ·rename_i b;simp only[aK,co]at b;obtain⟨k,j,l,m⟩:=gP hr b.1 (nN [115,116,111,112] (by simp));have i:a=(4,(zT M,zT M),(.empty,0)):=by simpa using h.symm
   have o:bS n x=[]:=bJ b.2;subst i;refine⟨dh k.symm ?_,?_⟩
   ·rw[l,o];show aG _ [bq lW M] [j]=true;simp only[aG,m M,iA]
   ·show (e9 (M+1) (zT M) && e9 (M+1) (zT M) && wO .empty 0)=true;rw[w,u];rfl
  ·cases h
theorem pT{b:Type}{f g:b->Bool}:{l:List b}->(∀x∈l,f x=g x)->l.all f=l.all g
 | [],_=>rfl
 | a::l,h=>by
  simp only[jn,h a (by simp),pT (l:=l) λx c=>h x (by simp[c])]
theorem oL{d:Type}{n N:Nat}{f:Tm n->Option d}{g:d->Tm N}{B:d->Bool}(e:∀x a,aI ⟨n,x⟩->f x=some a->aB N (g a) n x=true/\B a=true):(p:List (Tm n))->(∀y∈p,aI ⟨n,y⟩)->(l:List d)->cQ f p=some l->aG (λa b=>aB N a n b) (l.map g) p=true/\l.all B=true/\l.length=p.length
 | [],_,l,c=>by
  simp[cQ]at c;subst c;exact⟨rfl,rfl,rfl⟩
 | y::p,hr,l,c=>by
  simp only[cQ]at c;obtain⟨a,k,c⟩:=bC.1 c;obtain⟨r,m,rfl⟩:=cw.1 c;obtain⟨h,i,j⟩:=oL e p (λt o=>hr t (by simp[o])) r m;obtain⟨q,s⟩:=e y a (hr y (by simp)) k;refine⟨?_,by simp[s,i],by simp[j]⟩;simp only[aU,aG,q,h,iA]
theorem qv(c:n<=M+1)(b:M+1<=N){y:Tm n}(d:aI ⟨n,y⟩):aB N (aY N (M+1) (aY (M+1) n y)) n y=true:=by
 have a:=mI c d;exact bM _ _ _ _ _ _ (mD N (M+1) b _ (ye a)) a
theorem KC(M:Nat):(n:Nat)->n<=M+1->(x:Tm n)->aI ⟨n,x⟩->(c:Cl (M+1))->zK M n x=some c->aB (M+4) (dJ M c) n x=true/\tJ (M+1) c=true
 | 0,_,_,hr,_,_=>(dq hr).elim
 | n+1,hn,x,hr,c,h=>by
  have d:∀y∈bS n x,aI ⟨n,y⟩:=λy e=>eG hr e;have get:∀(q:List (Tm n))(i:Nat),i<q.length->∃y,q[i]?=some y/\y∈q:=λq i j=>⟨q[i],aM j,jM j⟩;simp only[zK,sL]at h;split at h
  ·rename_i b;simp only[aK,co]at b;obtain⟨z,w,A,C⟩:=gP hr b.1 (nN [111,110] (by simp));obtain⟨p,k,m⟩:=get _ 0 (by rw[b.2];omega);obtain⟨q,o,I⟩:=get _ 1 (by rw[b.2];omega);obtain⟨r,u,f⟩:=get _ 2 (by rw[b.2];omega);obtain⟨t,v,J⟩:=get _ 3 (by rw[b.2];omega);rw[k,o,u,v]at h;simp only[dG]at h;split at h
   ·rename_i F;obtain⟨l,G,rfl⟩:=cw.1 h;have H:bS n x=[p,q,r,t]:=GP b.2 k o u v;cases n with
    | zero=>exact(dq (d p m)).elim
    | succ n=>
    have s:r.1.1=4:=F;obtain⟨K,L,P⟩:=oL (g:=cq M) (B:=nW (M+1)) (λy a e E=>KA M n (by omega) y e a E) r.2.2 (λy e=>bf n r y (d r f) e) l G;have O:=mL (d r f) s;refine⟨dh z.symm ?_,?_⟩
    ·rw[A,H];show aG _ [bq LB (M+2),aY (M+3) (M+1) (aY (M+1) (n+1) p),aY (M+3) (M+1) (aY (M+1) (n+1) q),dl (M+2) (l.map (cq M)),aY (M+3) (M+1) (aY (M+1) (n+1) t)] [w,p,q,r,t]=true;have D:aB (M+3) (dl (M+2) (l.map (cq M))) (n+1) r=true:=dh (xV (d r f) s).symm K;simp only[aG,C (M+2),qv (N:=M+3) (M:=M) (by omega) (by omega) (d p m),qv (N:=M+3) (M:=M) (by omega) (by omega) (d q I),qv (N:=M+3) (M:=M) (by omega) (by omega) (d t J),D,iA]
    ·show (decide ((l.length:Int)<=8) && l.all (nW (M+1)))=true;rw[L,ie (by omega)];rfl
   ·cases h
  ·cases h
theorem KB(M:Nat):(n:Nat)->n<=M+1->(x:Tm n)->aI ⟨n,x⟩->(b:Bh (M+1))->zJ M n x=some b->aB (M+5) (dR M b) n x=true/\(dV b.1 && decide ((b.2.2.length:Int)<=6) && b.2.2.all (tJ (M+1)))=true
 | 0,_,_,hr,_,_=>(dq hr).elim
 | n+1,hn,x,hr,b,a=>by
  have e:∀y∈bS n x,aI ⟨n,y⟩:=λy d=>eG hr d;simp only[zJ,tO]at a;split at a
  ·rename_i u;obtain⟨h,r,i,s⟩:=gP hr u (nN [98,101,104] (by simp));obtain⟨p,m,a⟩:=bC.1 a;split at a
   ·rename_i k;obtain⟨l,v,rfl⟩:=cw.1 a;have z:x.1.1=4:=by rw[h]
    have j:=mL hr z;generalize bS n x=f at*;cases f with
    | nil=>simp at m
    | cons c f=>
    have q:c=p:=by simpa using m
    subst q;cases n with
    | zero=>exact(dq (e c (by simp))).elim
    | succ n=>
    have w:=qD (e c (by simp)) k;obtain⟨A,C,D⟩:=oL (g:=dJ M) (B:=tJ (M+1)) (λy o d t=>KC M (n+1) (by omega) y d o t) f (λy d=>e y (by simp[d])) l v;rw[i]at j;simp only[br]at j;refine⟨dh h.symm ?_,?_⟩
    ·rw[i];show aG _ (bq tY (M+3)::bq c.1.2.2 (M+3)::l.map (dJ M)) (r::c::f)=true;simp only[aG,s (M+3),sn (e c (by simp)) k (M+3),A,iA]
    ·show (dV c.1.2.2 && decide ((l.length:Int)<=6) && l.all (tJ (M+1)))=true;rw[w.2.2,C,ie (by omega)];rfl
   ·cases a
  ·cases a
theorem BY(M:Nat):(n:Nat)->n<=M+1->(x:Tm n)->aI ⟨n,x⟩->(l:List (Bh (M+1)))->BX M n x=some l->aB (M+6) (cd M l) n x=true/\kF (M+1) l=(decide (1<=(l.length:Int)) && l.all λb=>decide (1<=(b.2.2.length:Int)))
 | 0,_,_,hr,_,_=>(dq hr).elim
 | n+1,hn,x,hr,l,h=>by
  have r:∀y∈bS n x,aI ⟨n,y⟩:=λy c=>eG hr c;simp only[BX]at h;split at h
  ·rename_i a;obtain⟨d,o,e,p⟩:=gP hr a (nN [99,111,100,101] (by simp));have s:x.1.1=4:=by rw[d]
   have f:=mL hr s;obtain⟨t,i,u⟩:=oL (g:=dR M) (B:=λb=>dV b.1 && decide ((b.2.2.length:Int)<=6) && b.2.2.all (tJ (M+1))) (λy j c q=>KB M n (by omega) y c j q) (bS n x) r l h;rw[e]at f;simp only[br]at f;refine⟨dh d.symm ?_,?_⟩
   ·rw[e];show aG _ (bq nU (M+4)::l.map (dR M)) (o::bS n x)=true;simp only[aG,p (M+4),t,iA]
   ·have k:decide ((l.length:Int)<=7)=true:=ie (by omega);have m:l.all (wI (M+1))=l.all λb=>decide (1<=(b.2.2.length:Int)):=by
     rw[cu]at i;refine pT λb a=>?_;have:=i b a;simp only[aK]at this;simp only[wI,this.1.1,this.1.2,this.2,eJ,Bool.and_true]
    simp only[kF,k,m,Bool.and_true]
  ·cases h
theorem dP{β:Type}{f:e->β->Bool}{b:β}{q:List β}(c:aG f p (b::q)=true):∃a d,p=a::d/\f a b=true/\aG f d q=true:=by
 cases p with
 | nil=>simp[aG]at c
 | cons a p=>
  simp only[aG,aK]at c;exact⟨a,p,rfl,c.1,c.2⟩
theorem mN{β:Type}{f:e->β->Bool}(a:aG f p ([]:List β)=true):p=[]:=by
 cases p with
 | nil=>rfl
 | cons b p=>simp[aG]at a
theorem KJ{m:Nat}{x:Tm n}{y:Tm (m+1)}(a:aB n x (m+1) y=true):(gu n x).1=y.1:=(FC a).1
theorem nO{x:Tm (N+1)}{ys:List (Tm (n+1))}(k:aB (N+1) x (n+2) (dl (n+1) (bq d n::ys))=true):fl N x=d/\aG (λa b=>aB N a (n+1) b) (bS N x) ys=true:=by
 obtain⟨l,m⟩:=bL k;obtain⟨a,q,g,h,o⟩:=dP m;have c:x.1.1=4:=by rw[l];rfl
 have e:=KJ h;have i:b8 ⟨N,a⟩=2:=by
  cases N with
  | zero=>simp[aB]at h
  | succ N=>
   have:a.1.1=2:=by
    have j:a.1=(2,0,d):=e;rw[j]
   exact this
 have f:x.2.2[0]?=some a:=by rw[g];rfl
 have p:x.2.2.drop 1=q:=by rw[g];rfl
 constructor
 ·simp only[fl,c,cY,f,i];rw[e];rfl
 ·simp only[bS,c,cY,f,i,p];exact o
theorem lq(a:ap):tg a a=true:=by simp[tg]
theorem t8{m β:Type}{n:Nat}{f:Tm n->Option m}{R:Tm n->β->Prop}{Q:m->β->Prop}(g:∀y b,R y b->∃a,f y=some a/\Q a b):(q:List (Tm n))->(l:List β)->eY R q l->∃c,cQ f q=some c/\eY Q c l
 | [],[],_=>⟨[],rfl,eY.nil⟩
 | [],_::_,h=>by have:=h.1;simp at this
 | _::_,[],h=>by have:=h.1;simp at this
 | y::q,b::l,h=>by
  obtain⟨a,o,k⟩:=g y b h.tail.1;obtain⟨c,p,j⟩:=t8 g q l h.tail.2;refine⟨a::c,by simp[cQ,o,p],by simp[j.1],λi u v d e=>?_⟩;cases i with
  | zero=>
   simp at d e;subst d e;exact k
  | succ i=>exact j.2 i u v (by simpa using d) (by simpa using e)
theorem lS{β:Type}{n m:Nat}(g:β->Tm m):(q:List (Tm n))->(l:List β)->aG (λa b=>aB n a m b) q (l.map g)=true->eY (λy b=>aB n y m (g b)=true) q l
 | [],[],_=>eY.nil
 | [],_::_,h=>by simp[aG]at h
 | _::_,[],h=>by simp[aG]at h
 | y::q,b::l,h=>by
  simp only[aU,aG,aK]at h;have ih:=lS g q l h.2;refine⟨by simp[ih.1],λi u v c d=>?_⟩;cases i with
  | zero=>
   simp at c d;subst c d;exact h.1
  | succ i=>exact ih.2 i u v (by simpa using c) (by simpa using d)
theorem kD(a:d.toList≠s.toList):tg d s=false:=by simpa [tg]using a
theorem Oy(M N n:Nat)(a:Ac (n+1))(y:Tm N)(b:aB N y (n+2) (cq n a)=true):∃E,sK M N y=some E:=by
 cases N with
 | zero=>simp[aB]at b
 | succ N=>
 have i:mR.toList=[115,101,110,100]:=ky [115,101,110,100];have j:jj.toList=[115,112,97,119,110]:=ky [115,112,97,119,110];have k:mQ.toList=[108,105,110,107]:=ky [108,105,110,107];have l:lW.toList=[115,116,111,112]:=ky [115,116,111,112];unfold cq at b;split at b
 ·obtain⟨c,d⟩:=nO b;obtain⟨s,t,f,r,h⟩:=dP d;obtain⟨B,C,o,z,q⟩:=dP h;have p:=mN q;subst o p;simp only[sK,jT,c,f,lq];exact⟨_,rfl⟩
 split at b
 ·obtain⟨c,d⟩:=nO b;obtain⟨s,t,f,r,h⟩:=dP d;obtain⟨B,C,o,z,q⟩:=dP h;obtain⟨D,F,p,A,v⟩:=dP q;have g:=mN v;subst o p g;have w:b8 ⟨N,s⟩=2:=by rw[kH r];rfl
  have x:b8 ⟨N,D⟩=5:=by rw[kH A];rfl
  have e:tg jj mR=false:=kD (by rw[i,j];decide);simp only[sK,jT,c,f,lq,e,Bool.false_and,eJ];simp[zM,w,x]
 split at b
 ·obtain⟨c,d⟩:=nO b;obtain⟨s,t,f,r,h⟩:=dP d;have g:=mN h;subst g;have e:tg mQ mR=false:=kD (by rw[i,k];decide);have m:tg mQ jj=false:=kD (by rw[j,k];decide);simp only[sK,jT,c,f,lq,e,m,Bool.false_and,eJ];simp
 ·obtain⟨c,d⟩:=nO b;have g:=mN d;have e:tg lW mR=false:=kD (by rw[i,l];decide);have m:tg lW jj=false:=kD (by rw[j,l];decide);have u:tg lW mQ=false:=kD (by rw[k,l];decide);simp only[sK,jT,c,g,lq,e,m,u,Bool.false_and,eJ];simp
theorem OA(M N n:Nat)(c:Cl (n+1))(y:Tm N)(g:aB N y (n+4) (dJ n c)=true):∃e,zK M N y=some e:=by
 cases N with
 | zero=>simp[aB]at g
 | succ N=>
 obtain⟨o,p⟩:=nO g;obtain⟨B,G,i,D,q⟩:=dP p;obtain⟨C,H,j,E,r⟩:=dP q;obtain⟨a,I,k,d,s⟩:=dP r;obtain⟨t,J,l,F,u⟩:=dP s;have m:=mN u;subst j k l m;have v:b8 ⟨N,a⟩=4:=by rw[kH d];rfl
 cases N with
 | zero=>simp[aB]at d
 | succ N=>
 obtain⟨h,z,_⟩:=t8 (f:=sK M N) (R:=λy b=>aB N y (n+2) (cq n b)=true) (Q:=λ_ _=>True) (λy b w=>by
  obtain⟨e,x⟩:=Oy M N n b y w
  exact⟨e,x,trivial⟩) a.2.2 c.2.2 (lS (cq n) _ _ (bL d).2)
 have A:cQ (sK M (N+1-1)) (ER (N+1) a)=some h:=z;refine⟨((aY (M+1) (N+1) B,aY (M+1) (N+1) C,aY (M+1) (N+1) t),(none,0),h),?_⟩;show sL M (N+1) (fl (N+1) y) (bS (N+1) y)=_;rw[o,i];unfold sL;rw[if_pos (by rw[lq];rfl)];show (if b8 ⟨N+1,a⟩=4 then (cQ (sK M (N+1-1)) (ER (N+1) a)).map _ else none)=_;rw[if_pos v,A];rfl
theorem Oz(M N n:Nat)(b:Bh (n+1))(y:Tm N)(c:aB N y (n+5) (dR n b)=true):∃a,zJ M N y=some a/\a.2.2.length=b.2.2.length:=by
 cases N with
 | zero=>simp[aB]at c
 | succ N=>
 obtain⟨g,h⟩:=nO c;obtain⟨d,q,e,p,i⟩:=dP h;have j:b8 ⟨N,d⟩=2:=by rw[kH p];rfl
 obtain⟨r,o,k⟩:=t8 (f:=zK M N) (R:=λy b=>aB N y (n+4) (dJ n b)=true) (Q:=λ_ _=>True) (λy b l=>by
  obtain⟨a,m⟩:=OA M N n b y l
  exact⟨a,m,trivial⟩) q b.2.2 (lS (dJ n) _ _ i)
 refine⟨(xC N d,(none,0),r),?_,k.1⟩;simp only[zJ,tO,g,e,lq];simp[j,o]
theorem KD(M N n:Nat)(q:N<=M+1)(l:List (Bh (n+1)))(e:kF (n+1) l=true)(x:Tm N)(r:aI ⟨N,x⟩)(i:aB N x (n+6) (cd n l)=true):∃a,BX M N x=some a/\kF (M+1) a=true/\a.length=l.length:=by
 cases N with
 | zero=>simp[aB]at i
 | succ N=>
 obtain⟨o,p⟩:=nO i;obtain⟨h,u,c⟩:=t8 (f:=zJ M N) (R:=λg b=>aB N g (n+5) (dR n b)=true) (Q:=λa b=>a.2.2.length=b.2.2.length) (λg b s=>Oz M N n b g s) (bS N x) l (lS (dR n) _ _ p);have m:BX M (N+1) x=some h:=by
  simp only[BX,o,lq];simpa using u
 refine⟨h,m,?_,c.1⟩;rw[(BY M (N+1) q x r h m).2];simp only[kF,wI,aK,co,cu]at e ⊢;refine⟨by rw[c.1];exact e.1.1,λa t=>?_⟩;obtain⟨d,j⟩:=dd t;have k:d<l.length:=by have:=(aX.1 j).1;rw[<-c.1];exact this
 have:=c.2 d a l[d] j (aM k);rw[this];exact(e.2 l[d] (jM k)).1.1.2
def Bc(M:Nat)(o:Option (List (Bh (M+1)))):Int:=match o with|some l=>if kF (M+1) l=true then 0 else 5|none=>5
def Bb(M n:Nat)(x:Tm n):Int:=if bE n x=0 then Bc M (BX M n x)else bE n x
def tZ(M:Nat)(E:Int)(o:Option (List (Bh (M+1))))(w:ag)(e:Ending)(w':ag):Prop:=
 ∃(l:List (Bh (M+1)))(a:aw)(c:Nat),e=.returned (.tuple #[ae a l.length c,ab E])/\Hid (ak w w'/\(l.length<=c/\c<=maxLen)/\gq (M+1) w'.heap.size w' a l/\tI (jX (M+1) (λb=>w.heap.size<=b)) (λb=>w.heap.size<=b) a l/\(¬E=0->l=[])/\(E=0->∃d,o=some d/\eY (yN (M+1)) l d))
theorem sC{E:Int}{o:Option (List (Bh (M+1)))}(a:¬E=0)(c:ak w w'):tZ M E o w (.returned (.tuple #[ae none 0 0,ab E])) w':=
 ⟨[],none,0,rfl,c,⟨ao _,aL _⟩,ai rfl,ai rfl,λ_=>rfl,λb=>(a b).elim⟩
theorem Gz(M:Nat)(k u:Int)(s:ap)(a:aw)(l c:Nat)(w:ag)(g:Int)(o:Option (List (Bh (M+1))))(E:Int)(J:Hid (E=if g=0 then Bc M o else g))(Q:Hid (∀w1,ak w w1->am 53 #[.agg #[ab k,ab u,af s,ae a l c]] w1 λe w'=>e=.returned (ab g)/\ak w1 w'))(H:Hid (g=0->∀w1,ak w w1->am 67 #[.agg #[ab k,ab u,af s,ae a l c]] w1 (uw M o w1))):am 38 #[.agg #[ab k,ab u,af s,ae a l c]] w (tZ M E o w):=by
 go_enter func38,ntmps38;go_wp2_with fail;refine(Q _ aV).mono ?_;rintro e w1 ⟨rfl,L⟩;have q:Hid (ak w w1):=aV.trans (L.mono (by simp));have j:=au (ri w _ _ _ _ _ L);clear L Q;by_cases A:g=0
 ·subst A;have S:=au (H (by simp) w1 q);have X:w1.cell? ⟨w.heap.size,0,none⟩=some (ab k):=ay j 0;have Y:w1.cell? ⟨w.heap.size,1,none⟩=some (ab u):=ay j 1;have Z:w1.cell? ⟨w.heap.size,2,none⟩=some (af s):=ay j 2;have aa:w1.cell? ⟨w.heap.size,3,none⟩=some (ae a l c):=ay j 3;have an:w.heap.size<w1.heap.size:=(aJ.1 j).1;have D:=au (show E=Bc M o by simpa using J.out);clear H J;go_wp2_with fail;refine S.mono ?_;rintro e B ⟨p,x,z,aj,rfl,i⟩;obtain⟨t,K⟩:∃t,p.length=t:=⟨_,rfl⟩;rw[K];have G:=au K;have r:Hid (ak w B):=q.trans (i.1.mono q.size);clear K S X Y Z aa j;cases aj
  ·have h:Hid (E=5):=by
     show E=5;rw[D.out];have d:=i.2.1;cases o with
     | none=>rfl
     | some f=>cases d
   have W:Hid (tZ M E o w (.returned (.tuple #[ae none 0 0,ab 5])) B):=by
    have d:=sC (M:=M) (E:=E) (o:=o) (by rw[h.out];omega) r;rw[h.out]at d;rw[h.out];exact d
   go_wp2_with fail;exact az (v:=.tuple #[ae none 0 0,ab 5]) (by simp[results,results38,go_sem]) rfl W
  ·have F:Hid (∀m,ak B m->am 65 #[ae x t z] m λe w'=>e=.returned (.bool (kF (M+1) p))/\ak m w'):=λm T=>
     pV M p t G x z B.heap.size m (gq.below T i.2.2.2.1) (by have:=i.2.2.1;have:=G.out;unfold maxLen at*;omega) T.size
   obtain⟨b,y⟩:∃b,kF (M+1) p=b:=⟨_,rfl⟩;rw[y]at F;have R:=au y;clear y;have I:Hid (∃f,o=some f/\eY (yN (M+1)) p f):=by
    have d:=i.2.1;cases o with
    | none=>cases d
    | some f=>exact⟨f,rfl,i.2.2.2.2.2 f rfl⟩
   cases b
   ·have h:Hid (E=5):=by
      show E=5;obtain⟨f,O,N⟩:=I.out;rw[D.out,O];show (if kF (M+1) f=true then (0:Int)else 5)=5;rw[<-Kv N,R.out];rfl
    go_wp2_with (go_at_call 65;refine(F _ (aq _ _)).mono ?_;rintro e m ⟨rfl,n⟩;have C:=au (r.trans (n.mono r.size));clear n);refine az (v:=.tuple #[ae none 0 0,ab 5]) (by simp[results,results38,go_sem]) rfl ?_;have d:=sC (M:=M) (E:=E) (o:=o) (by rw[h.out];omega) C;rw[h.out]at d;rw[h.out];exact d
   ·have U:Hid (E=0):=by
      show E=0;obtain⟨f,O,N⟩:=I.out;rw[D.out,O];show (if kF (M+1) f=true then (0:Int)else 5)=0;rw[<-Kv N,R.out];rfl
    go_wp2_with (go_at_call 65;refine(F _ (aq _ _)).mono ?_;rintro e m ⟨rfl,n⟩;have P:=au n;have C:=au (r.trans (n.mono r.size));clear n);refine az (v:=.tuple #[ae x t z,ab 0]) (by simp[results,results38,go_sem]) rfl ?_;obtain⟨ao,ar,ad,ah,ai,av⟩:=i;rw[U.out];exact⟨p,x,z,by rw[G.out],C,ad,(gq.below P ah).mono P.size,(cN (ed _) 2 (pN (M+1)) x).1 _ _ _ (λb y=>aD q.size y) ai,λd=>(d rfl).elim,λ_=>I⟩
 ·have al:(g !=0)=true:=by simpa using A
  have V:Hid (E=g):=by
   show E=g;rw[J.out,if_neg A]
  clear H j;go_wp2_with fail;refine az (v:=.tuple #[ae none 0 0,ab g]) (by simp[results,results38,go_sem]) rfl ?_;rw[V.out];exact sC A q
theorem Be(M n:Nat)(g:n<=M+1)(x:Tm n)(B:Nat)(w:ag)(c:In B w n x)(f:(aC n x).length<=2097152)(b:B<=w.heap.size):am 38 #[dw n x] w (tZ M (Bb M n x) (BX M n x) w):=by
 cases n with
 | zero=>exact c.elim
 | succ n=>
 exact Gz M x.1.1 x.1.2.1 x.1.2.2 x.2.1.1 x.2.2.length x.2.1.2 w (bE (n+1) x) _ _ rfl (λd a=>dQ (n+1) x B d (c.below (a.mono b)) (aD b a.size) f) (λe d a=>zW M (n+1) g x B d (c.below (a.mono b)) (aT.2 (bG.1 e).1) (aD b a.size))
theorem qn{x:Tm n}(a:bE n x=0):aI ⟨n,x⟩:=aT.2 (bG.1 a).1
theorem fy{p:List (Bh (n+1))}(b:lU n p=0):kF (n+1) p=true/\bE (n+6) (cd n p)=0/\K7 n p=cd n p:=by
 have a:=b;unfold lU at a;split at a
 ·rename_i c;exact⟨c,a,by unfold K7;rw[if_pos b]⟩
 ·omega
theorem OG{p:List (Bh (n+1))}(a:kF (n+1) p=true)(k:bE (n+6) (cd n p)=0):lU n p=0:=by
 unfold lU;rw[if_pos a];exact k
theorem xU(i:n<=M+1){x:Tm n}(e:bE n x=0){a l:List (Bh (M+1))}(j:BX M n x=some a)(f:eY (yN (M+1)) l a)(h:kF (M+1) a=true):kF (M+1) l=true/\lU M l=0/\aB (M+6) (K7 M l) n x=true/\(aC (M+6) (cd M l)).length=(aC n x).length:=by
 have g:=BY M n i x (qn e) a j;have c:kF (M+1) l=true:=(Kv f).trans h;have b:aB (M+6) (cd M l) n x=true:=bM _ _ _ _ _ _ (Kw f) g.1;have d:lU M l=0:=OG c ((bV b).trans e);exact⟨c,d,by rw[(fy d).2.2];exact b,kI _ _ _ _ b⟩
theorem Io{p:List (Bh (n+1))}(i:lU n p=0){y:Tm (n+6)}(a:aB (n+6) y (n+6) (K7 n p)=true):bE (n+6) y=0/\Bb (n+5) (n+6) y=0/\∀e l,BX (n+5) (n+6) y=some e->eY (yN (n+6)) l e->kF (n+6) l=true/\lU (n+5) l=0/\aB (n+11) (K7 (n+5) l) (n+6) (K7 n p)=true/\l.length=p.length/\(aC (n+11) (cd (n+5) l)).length=(aC (n+6) (cd n p)).length:=by
 obtain⟨j,k,f⟩:=fy i;rw[f]at a;have b:bE (n+6) y=0:=(bV a).trans k;obtain⟨e,d,h,m⟩:=KD (n+5) (n+6) n (ao _) p j y (qn b) a;refine⟨b,?_,λt l c g=>?_⟩
 ·unfold Bb;rw[if_pos b,d];unfold Bc;simp only[h,cY]
 ·rw[d]at c;injection c with c;subst c;obtain⟨o,q,r,s⟩:=xU (ao _) b d g h;exact⟨o,q,by rw[f];exact bM _ _ _ _ _ _ r a,g.1.trans m,by rw[s];exact kI _ _ _ _ a⟩
def mi(lo:Nat)(room:Int)(K:Nat)(e:aR)(B:Nat)(w:ag):List (Int×ap×Tc)->List Nat->Nat->Prop
 | [],[],c=>c<=B
 | x::l,b::bs,c=>∃a d,(c<=a/\a<=d)/\P1 lo b x.2.1 room x.2.2 [] K (λq=>a<=q/\q<d) w/\(∀q,a<=q->q<d->¬e q)/\mi lo room K e B w l bs d
 | _,_,_=>False
section
variable {lo K:Nat} {room:Int} {X:aR} {B:Nat} {w:ag}
theorem mi.le:{l:List (Int×ap×Tc)}->{a:List Nat}->{c:Nat}->mi lo room K X B w l a c->c<=B
 | [],[],_,h=>h
 | [],_::_,_,h=>h.elim
 | _::_,[],_,h=>h.elim
 | _::_,_::_,_,⟨c1,c2,h1,_,_,h4⟩=>by have:=h4.le;omega
theorem mi.kept2{w':ag}{S f:aR}{e c0:Nat}(a:bB S w w')(j:∀q,c0<=q->q<B->S q->X q)(k:∀q,q<B->f q->X q)(i:B<=e):{l:List (Int×ap×Tc)}->{g:List Nat}->{c:Nat}->c0<=c->mi lo room K X B w l g c->mi lo room K f e w' l g c
 | [],[],_,_,h=>aD h i
 | [],_::_,_,_,h=>h.elim
 | _::_,[],_,_,h=>h.elim
 | _::_,_::_,_,hc,⟨c1,c2,h1,h2,h3,h4⟩=>by
  have o:=h4.le;exact⟨c1,c2,h1,h2.kept (S:=S) ⟨a.os,a.tape,a.output,a.size,a.block⟩ λb q d=>h3 b q.1 q.2 (j b (by omega) (by omega) d),λq m n d=>h3 q m n (k q (by omega) d),h4.kept2 a j k i (by omega)⟩
theorem mi.kept{w':ag}{S b:aR}{a:Nat}(i:bB S w w')(g:∀q,q<B->S q->X q)(h:∀q,q<B->b q->X q)(f:B<=a){l:List (Int×ap×Tc)}{d:List Nat}{c:Nat}(e:mi lo room K X B w l d c):mi lo room K b a w' l d c:=e.kept2 (c0:=0) i (λq _=>g q) h f (aL _)
theorem mi.snoc{a B2 e b:Nat}{x:Int×ap×Tc}(g:B<=a)(d:a<=B2/\B2<=e)(i:P1 lo b x.2.1 room x.2.2 [] K (λq=>a<=q/\q<B2) w)(j:∀q,a<=q->q<B2->¬X q):{l:List (Int×ap×Tc)}->{f:List Nat}->{c:Nat}->mi lo room K X B w l f c->mi lo room K X e w (l++ [x]) (f++ [b]) c
 | [],[],_,h=>⟨a,B2,⟨aD h g,d.1⟩,i,j,d.2⟩
 | [],_::_,_,h=>h.elim
 | _::_,[],_,h=>h.elim
 | _::_,_::_,_,⟨c1,c2,h1,h2,h3,h4⟩=>⟨c1,c2,h1,h2,h3,h4.snoc g d i j⟩
end
section
variable {p:ke} {s:Sy} {d:fY} {w:ag}
theorem MC{n:Nat}{x:Tm n}(room:Int)(nm:ap)(b:bE n x=0):gg 13 (cn n x) room nm=gg n x room nm:=by
 have a:=ex b;unfold gg jS;rw[bV a,cM _ _ _ _ a,lT _ _ _ _ a]
theorem bt.made(z:bt p s d w){N ad:Nat}{pa:aw}{pl pc:Nat}{t:List (Int×ap×Tm (N+1))}(aD:w.ownsRow ad 174 6 (ae pa pl pc) pl (t.flatMap λg=>OC g.1 g.2.1 g.2.2))(ay:t.length=pl)(Y:pl<=1000)(aE:∀g∈t,bE _ g.2.2=0/\In w.heap.size w _ g.2.2):am 47 #[aH p.b,ae pa pl pc] w λe w'=>∃v b,e=.returned (.tuple #[v,.bool b])/\Hid (ak w w'/\b=s.made p.n p.prog p.room (t.map λg=>(g.1,g.2.1,cn _ g.2.2))/\(b=true->∃m a c,v=ae a pl c/\m.length=pl/\w'.ownsRow w.heap.size 65 1 v pl (m.map Ar)/\mi p.lo p.room (d.k+201) (λq=>v.ownBlock=some q) w'.heap.size w' (t.map λg=>(g.1,g.2.1,cn _ g.2.2)) m w.heap.size)):=by
 have aB:kF (p.n+1) p.prog=true:=(fy z.pg.2.2.2.1).1;obtain⟨aS,O,af,_,ar⟩:=rN aD (by decide) λg=>rfl;injection af with ah aU aT;subst ah;have F:∀f,f<pl->t[f]?=some (t.getD f (0,⟨#[]⟩,((0,0,⟨#[]⟩),(none,0),[]))):=λf i=>by
  rw[mW,aM (by omega)];rfl
 generalize T:(λf=>t.getD f (0,⟨#[]⟩,((0,0,⟨#[]⟩),(none,0),[])))=h;have F:∀f,f<pl->t[f]?=some (h f):=λf i=>by rw[F f i,<-T]
 clear T;obtain⟨o,J⟩:∃o,o=t.map λg=>(g.1,g.2.1,cn _ g.2.2):=⟨_,rfl⟩;rw[<-J];have U:o.length=pl:=by rw[J,eu,ay]
 have K:∀f,f<pl->o[f]?=some ((h f).1,(h f).2.1,cn _ (h f).2.2):=λf i=>by rw[J,dy,F f i];rfl
 have W:∀f,f<pl->bE _ (h f).2.2=0/\In w.heap.size w _ (h f).2.2:=λf i=>aE _ (aN (F f i));have X:∀f,f<pl->gg 13 (cn _ (h f).2.2) p.room (h f).2.1=gg _ (h f).2.2 p.room (h f).2.1:=λf i=>MC _ _ (W f i).1;have aF:∀f,f<pl->o.take (f+1)=o.take f++ [((h f).1,(h f).2.1,cn _ (h f).2.2)]:=λf i=>by
  rw[dz,K f i];rfl
 refine GS p.b pa pl pc (s.may pl) p.room w (λf=>(h f).1) (λf=>(h f).2.2.1.1) (λf=>(h f).2.2.1.2.1) (λf=>(h f).2.1) (λf=>(h f).2.2.1.2.2) (λf=>(h f).2.2.2.1.1) (λf=>(h f).2.2.2.2.length) (λf=>(h f).2.2.2.1.2) (λf=>lu p.n p.prog (h f).2.1) (λf=>gg _ (h f).2.2 p.room (h f).2.1) (λf m v j=>mi p.lo p.room (d.k+201) (λq=>v.ownBlock=some q) j.heap.size j (o.take f) m w.heap.size/\∀q,v.ownBlock=some q->q<j.heap.size)
  (λf G m v j=>∃x,(w.heap.size<=x/\x<=j.heap.size)/\(mi p.lo p.room (d.k+201) (λq=>v.ownBlock=some q) x j (o.take f) m w.heap.size)/\(∀q,v.ownBlock=some q->q<x)/\P1 p.lo G (h f).2.1 p.room (cn _ (h f).2.2) [] (d.k+201) (λq=>x<=q/\q<j.heap.size) j) (λv b w'=>ak w w'/\b=s.made p.n p.prog p.room o/\(b=true->∃m a c,v=ae a pl c/\m.length=pl/\w'.ownsRow w.heap.size 65 1 v pl (m.map Ar)/\mi p.lo p.room (d.k+201) (λq=>v.ownBlock=some q) w'.heap.size w' o m w.heap.size)) Y z.lo.2 z.cells.2.1 (λf i=>?_) (z.mayHave pl Y) (λf j i l=>(z.later l).knows _) (λf m v j i r l E=>?_) ?_ (λf m v j H E l=>?_) (λf G m a c D O j ab H B aq l A au av=>?_) (λj l u=>?_) λj m a c l ai Q al an R=>?_
 ·obtain⟨D,I,P,y⟩:=ar f _ (F f i);exact⟨D,I,P,y 0 _ rfl,y 1 _ rfl,y 2 _ rfl,y 3 _ rfl,y 4 _ rfl,y 5 _ rfl⟩
 ·have aZ:=DB aB r;obtain⟨aI,aJ⟩:=W f i;refine(P1.new _ (h f).2.2 p.room (h f).2.1 j (by omega) ((aJ.below l).mono l.size) (fo aI)).mono ?_;rintro e w' ⟨q,rfl,aa⟩;obtain⟨L,a0,aL⟩:=aa;refine⟨q,rfl,L,λe=>?_⟩;obtain⟨G,I,P,y,ag⟩:=aL e;have:=z.lo.1;have:=l.size;refine⟨G,I,j.heap.size,⟨l.size,L.size⟩,E.1.kept (aO L λ_=>False) (λ_ _ g=>g.elim) (λ_ _ g=>g) (ao _),E.2,ag.mono (λb g=>g) (by omega) λb g=>⟨by omega,g.2⟩⟩
 ·exact⟨ao _,(λq g=>by cases g)⟩
 ·exact⟨E.1.kept (aO l λ_=>False) (λ_ _ g=>g.elim) (λ_ _ g=>g) l.size,λq g=>aW (E.2 q g) l.size⟩
 ·obtain⟨x,⟨a1,a2⟩,aP,Z,aQ⟩:=aq;have ax:bB (λq=>(Value.slice a f c).ownBlock=some q) ab H:=⟨A.os,A.tape,A.output,A.size,λk r az=>A.block k r λe=>az e.symm⟩;have r:bB (λq=>(Value.slice a f c).ownBlock=some q) j H:=(aO l _).trans ax λ_ _ e=>e;have aV:=l.size;have aY:=A.size;have V:∀q,q<j.heap.size->(Value.slice (some ⟨D,0,none⟩) (f+1) O).ownBlock=some q->(Value.slice a f c).ownBlock=some q:=λq aC g=>by
   obtain rfl:D=q:=aA g;rcases au with e|e
   ·exact e
   ·omega
  refine⟨?_,λq g=>?_⟩
  ·rw[aF f B];refine mi.snoc (ao x) (B2:=j.heap.size) (by omega) ?_ ?_ (aP.kept r (λq _ g=>g) (λq aC g=>V q (by omega) g) (ao _))
   ·exact aQ.kept (S:=λq=>(Value.slice a f c).ownBlock=some q) ⟨r.os,r.tape,r.output,r.size,r.block⟩ λb g C=>by have:=Z b C;omega
   ·exact λq M C aR=>by have:=Z q (V q C aR);omega
  ·obtain rfl:D=q:=aA g;exact av
 ·refine⟨l,?_,(λg=>by cases g)⟩;unfold Sy.made;rw[U];rcases u with u|⟨f,i,u⟩
  ·rw[u];rfl
  ·refine Eq.symm (Bool.and_eq_false_iff.2 (aj ?_));rw[List.all_eq_false];refine⟨_,aN (K f i),?_⟩;simp only[aK,cF,not_and];intro M C;rw[X f i]at C;rcases u with u|u
   ·rw[u]at M;cases M
   ·exact u C
 ·refine⟨l,?_,λ_=>⟨m,a,c,rfl,al,an,?_⟩⟩
  ·unfold Sy.made;rw[U,ai,eJ,eq_comm,cu];intro a3 aG;obtain⟨f,i⟩:=List.mem_iff_getElem?.1 aG;have B:f<pl:=by have:=(aX.1 i).1;omega
   rw[K f B]at i;obtain rfl:=aA i;simp only[aK,cF];exact⟨(Q f B).1,(X f B).trans (Q f B).2⟩
  ·rw[bF (by omega)]at R;exact R.1
end
theorem zX(x:Nat)(a O P:Int)(Q:ap)(ma:aw)(T S:Nat)(f:Int)(sa:aw)(sl sc:Nat)(pa:aw)(pl pc:Nat)(ka:aw)(kl kc:Nat)(av:aw)(vl aE:Nat)(aa:Nat->Nat)(C D E:Nat->Int)(F:Nat->ap)(xa:Nat->aw)(G xc:Nat->Nat)(ar:Nat->Int)(w:ag)(k o p:Nat->Nat->ag->Prop)(R:ag->Prop)(aP:vl<=1000)(aO:sl<=1000)(aN:kl<=1000)(X:Hid (∀q W,ak w W->w.heap.size<=q->W.heap[q]?=some (.cells #[ab O,ab P,af Q,ae ma T S,ab f,ae sa sl sc,ae pa pl pc,ae ka kl kc] 117)->k q 0 W))(H:Hid (∀q W,k q vl W->o q 0 W))(y:Hid (∀q W,o q sl W->p q 0 W))(i:Hid (∀q j W,(k q j W\/o q j W\/p q j W)->W.heap[q]?=some (.cells #[ab O,ab P,af Q,ae ma T S,ab f,ae sa sl sc,ae pa pl pc,ae ka kl kc] 117)))(I:Hid (∀q j W,j<vl->k q j W->(∃g,av=some ⟨g,0,none⟩/\W.cell? ⟨g,j,none⟩=some (.pointer (some ⟨aa j,0,none⟩)))/\Hid (am 43 #[aH x,ab a,.pointer (some ⟨aa j,0,none⟩)] W λe w'=>e=.returned (.tuple #[])/\Hid (k q (j+1) w'))))(z:Hid (∀q j W,j<sl->o q j W->(∃g,sa=some ⟨g,0,none⟩/\W.cell? ⟨g,j*5,none⟩=some (ab (C j))/\W.cell? ⟨g,j*5+1,none⟩=some (ab (D j))/\W.cell? ⟨g,j*5+2,none⟩=some (ab (E j))/\W.cell? ⟨g,j*5+3,none⟩=some (af (F j))/\W.cell? ⟨g,j*5+4,none⟩=some (ae (xa j) (G j) (xc j)))/\Hid (∀Z,ak W Z->am 82 #[aH x,ab a,ab (C j),.agg #[ab (D j),ab (E j),af (F j),ae (xa j) (G j) (xc j)]] Z λe w'=>e=.returned (.tuple #[])/\Hid (o q (j+1) w'))))(t:Hid (∀q j W,j<kl->p q j W->(∃g,ka=some ⟨g,0,none⟩/\W.cell? ⟨g,j,none⟩=some (ab (ar j)))/\Hid (am 83 #[aH x,ab a,ab (ar j)] W λe w'=>e=.returned (.tuple #[])/\Hid (p q (j+1) w'))))(s:Hid (∀q W,p q kl W->(f=1->am 48 #[aH x,ab a,ab 1] W λe w'=>e=.returned (.tuple #[])/\Hid (R w'))/\(f≠1->R W))):am 49 #[aH x,ab a,.agg #[ab O,ab P,af Q,ae ma T S,ab f,ae sa sl sc,ae pa pl pc,ae ka kl kc],ae av vl aE] w λe w'=>e=.returned (.tuple #[])/\Hid (R w'):=by
 go_enter func49,ntmps49;go_upto_region 1 with fail;generalize m:w.alloc _=ax;obtain⟨q,B⟩:∃q,q=w.heap.size:=⟨_,rfl⟩;rw[<-B];have V:Hid (k q 0 ax):=X q ax (by rw[<-m];exact(aq _ _).alloc (ao _) _) (dF B.symm) (by rw[<-m,B];exact aF _ _);clear m B X;go_wp2_with fail;go_loopw [9,16] (λ_ c wr=>∃(j:Nat),j<=vl/\c=ab j/\Hid (k q j wr)) (λ_ c _=>vl-(intOf c).toNat)
 case atStart=>exact⟨0,aL _,rfl,V⟩
 case round=>
 obtain⟨j,A,rfl,b⟩:=hrel;by_cases l:j<vl
 ·obtain⟨⟨g,rfl,M⟩,n⟩:=I.out q j wr l b;have al:(0:Int)<=(j:Int):=by omega
  have an:(j:Int)<(vl:Int):=by omega
  clear H y i I z t s b;go_wp2_with fail;refine n.mono ?_;rintro e d ⟨rfl,h⟩;go_wp2_with fail;go_roundw
  case rel=>exact⟨j+1,by omega,by go_num,h⟩
  case measure=>simp[intOf];omega
 obtain rfl:j=vl:=by omega
 have K:=au (H _ _ b);clear b I H V A l;have aC:wr.cell? ⟨q,5,none⟩=some (ae sa sl sc):=ah (i q 0 wr (aj (ai K))) 5;go_wp2_with fail;clear aC;go_loopw [11,28] (λ_ c U=>∃(j:Nat),j<=sl/\c=ab j/\Hid (o q j U)) (λ_ c _=>sl-(intOf c).toNat)
 case atStart=>exact⟨0,aL _,rfl,K⟩
 case round=>
 clear K;obtain⟨j,A,rfl,b⟩:=hrel;by_cases l:j<sl
 ·obtain⟨⟨g,rfl,M,az,aA,aB,ad⟩,n⟩:=z.out q j _ l b;have al:(0:Int)<=(j:Int):=by omega
  have an:(j:Int)<(sl:Int):=by omega
  clear y i z t s b;go_upto_region 9 with fail;generalize m:World.alloc _ _=d;have r:d.heap[wr.heap.size]?=some (.cells #[ab (C j),ab (D j),ab (E j),af (F j),ae (xa j) (G j) (xc j)] 177):=by
   rw[<-m];exact aF _ _
  have ay:=au (n d (by rw[<-m];exact(aq _ _).alloc (ao _) _));generalize wr.heap.size=u at*;have aG:d.cell? ⟨u,0,none⟩=some (ab (C j)):=ah r 0;have d1:d.cell? ⟨u,1,none⟩=some (ab (D j)):=ah r 1;have aI:d.cell? ⟨u,2,none⟩=some (ab (E j)):=ah r 2;have aJ:d.cell? ⟨u,3,none⟩=some (af (F j)):=ah r 3;have aK:d.cell? ⟨u,4,none⟩=some (ae (xa j) (G j) (xc j)):=ah r 4;clear m r n M az aA aB ad;go_wp2_with fail;refine ay.mono ?_;rintro e aQ ⟨rfl,h⟩;go_wp2_with fail;go_roundw
  case rel=>exact⟨j+1,by omega,by go_num,h⟩
  case measure=>simp[intOf];omega
 obtain rfl:j=sl:=by omega
 have L:=au (y _ _ b);clear b z y A l;have aD:wr.cell? ⟨q,7,none⟩=some (ae ka kl kc):=ah (i q 0 wr (aj (aj L))) 7;go_wp2_with fail;clear aD;go_loopw [13,43] (λ_ c U=>∃(j:Nat),j<=kl/\c=ab j/\Hid (p q j U)) (λ_ c _=>kl-(intOf c).toNat)
 case atStart=>exact⟨0,aL _,rfl,L⟩
 case round=>
 clear L;obtain⟨j,A,rfl,b⟩:=hrel;by_cases l:j<kl
 ·obtain⟨⟨g,rfl,M⟩,n⟩:=t.out q j _ l b;have al:(0:Int)<=(j:Int):=by omega
  have an:(j:Int)<(kl:Int):=by omega
  clear i t s b;go_wp2_with fail;refine n.mono ?_;rintro e d ⟨rfl,h⟩;go_wp2_with fail;go_roundw
  case rel=>exact⟨j+1,by omega,by go_num,h⟩
  case measure=>simp[intOf];omega
 obtain rfl:j=kl:=by omega
 have ad:wr.cell? ⟨q,4,none⟩=some (ab f):=ah (i q _ wr (aj (aj b))) 4;have Y:=au (s q _ b);clear b t i s;by_cases N:f=1
 ·subst N;have J:=au (Y.1 rfl);go_wp2_with fail;refine J.mono ?_;rintro e d ⟨rfl,h⟩;go_wp2_with fail;exact dn (v:=.tuple #[]) (by simp[results]) rfl ⟨rfl,h⟩
 ·have J:=au (Y.2 N);have aM:(f==1)=false:=by simpa using N
  go_wp2_with fail;exact dn (v:=.tuple #[]) (by simp[results]) rfl ⟨rfl,J⟩
end Go.Proofs.YtmmahddlcldmiaaGreat
