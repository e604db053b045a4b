/- Proved here: plain facts and contracts. No condition but what each names. -/
import Derived.Test.YtmmahddlcldmiaaGreatR09
import Derived.Deep.DeepCutAuto
import Derived.BigRegion
namespace Go.Proofs.YtmmahddlcldmiaaGreat
open Go.RowKit Go.Proofs.Tryz
open Go.RowKit Go.Maps
set_option maxHeartbeats 8000000
set_option maxRecDepth 100000
abbrev jG(M:Nat)(o:Option (Cl (M+1)))(w:ag)(e:Ending)(w':ag):Prop:=ru (fq (M+1)) (iz (M+1)) (ki (M+1)) (Ds (M+1)) o w e w'
def Ra(M:Nat):Cl (M+1):=((zT M,zT M,zT M),(none,0),[])
theorem mD{M:Nat}{o:Option (Cl (M+1))}{w w':ag}(b:o=none)(a:am w w'):jG M o w (.returned (.tuple #[.agg #[ab 0,ab 0,af .empty,ae none 0 0,ab 0,ab 0,af .empty,ae none 0 0,ae none 0 0,ab 0,ab 0,af .empty,ae none 0 0],.bool false])) w':=by
 subst b;exact⟨Ra M,false,rfl,a,rfl,⟨⟨lR _ _ _,lR _ _ _,lR _ _ _⟩,⟨av _,aM _⟩,aj rfl⟩,⟨⟨aj rfl,aj rfl,aj rfl⟩,aj rfl⟩,λd c=>by cases c⟩
theorem mZ{n:Nat}{m:Tm (n+1)}(c:aJ ⟨n+1,m⟩)(d:m.1.1=4):m.2.2.length<=8:=by
 have b:=c (bL n m) (by simp[aC,bL]);unfold cN at b;have a:(bL n m).1.1=4:=d;rw[if_neg (by rw[a];omega),if_neg (by rw[a];omega),if_neg (by rw[a];omega),if_pos a]at b;simp only[aK,cr]at b;have e:(m.2.2.length:Int)<=8:=b.1.2;omega
theorem uz{w:ag}{q:Nat}{c0 b f g h i k l m n c d e:ar}{t:TypeId}(a:w.heap[q]?=some (.cells #[c0,b,f,g,h,i,k,l,m,n,c,d,e] t)):(ah w q 0 c0/\ah w q 1 b/\ah w q 2 f/\ah w q 3 g/\ah w q 4 h/\ah w q 5 i/\ah w q 6 k/\ah w q 7 l/\ah w q 8 m/\ah w q 9 n/\ah w q 10 c/\ah w q 11 d/\ah w q 12 e)/\(∀j,w.frozen? ⟨q,j,none⟩=false)/\q<w.heap.size:=
 ⟨⟨ax a 0,ax a 1,ax a 2,ax a 3,ax a 4,ax a 5,ax a 6,ax a 7,ax a 8,ax a 9,ax a 10,ax a 11,ax a 12⟩,λj=>dg a j,(aI.1 a).1⟩
theorem um(M _n:Nat)(k h:Int)(s:ap)(xa:au)(j xc:Nat)(i:ap)(a:au)(len c:Nat)(w:ag)(o:Option (Cl (M+1)))(n:Hid (o=none))(q:(i.toList==[111,110])=false)(b:Hid (∀w1,am w w1->ao 104 #[.agg #[ab k,ab h,af s,ae xa j xc]] w1 λe w'=>e=.returned (.tuple #[af i,ae a len c])/\am w1 w')):ao 144 #[.agg #[ab k,ab h,af s,ae xa j xc]] w (jG M o w):=by
 go_enter func144,ntmps144;go_wp2_with fail;refine(b _ (by go_grown)).mono ?_;rintro e w1 ⟨rfl,d⟩;obtain⟨p,g,f,t⟩:=eN d;have l:=aq f;have m:=aq g;clear d p g f b;obtain⟨⟨d0,d1,d2,d3,d4,d5,d6,d7,d8,d9,d10,d11,d12⟩,f0,r⟩:=uz m;go_wp2_with fail;exact ay (v:=.tuple #[.agg #[ab 0,ab 0,af .empty,ae none 0 0,ab 0,ab 0,af .empty,ae none 0 0,ae none 0 0,ab 0,ab 0,af .empty,ae none 0 0],.bool false]) (by simp[results,results144,go_sem,d0,d1,d2,d3,d4,d5,d6,d7,d8,d9,d10,d11,d12];rfl) rfl (mD n ((rO _ _ _ _ _ _ _ _ _ _ _ _ _ _ _).below l (by omega)))
theorem wC(M _n:Nat)(k h:Int)(s:ap)(xa:au)(j xc:Nat)(i:ap)(a:au)(len c:Nat)(w:ag)(o:Option (Cl (M+1)))(n:Hid (o=none))(q:(i.toList==[111,110])=true)(_hl:((len:Int)==4)=false)(r:((len:Int) !=4)=true)(b:Hid (∀w1,am w w1->ao 104 #[.agg #[ab k,ab h,af s,ae xa j xc]] w1 λe w'=>e=.returned (.tuple #[af i,ae a len c])/\am w1 w')):ao 144 #[.agg #[ab k,ab h,af s,ae xa j xc]] w (jG M o w):=by
 go_enter func144,ntmps144;go_wp2_with fail;refine(b _ (by go_grown)).mono ?_;rintro e w1 ⟨rfl,d⟩;obtain⟨p,g,f,u⟩:=eN d;have l:=aq f;have m:=aq g;clear d p g f b;obtain⟨⟨d0,d1,d2,d3,d4,d5,d6,d7,d8,d9,d10,d11,d12⟩,f0,t⟩:=uz m;go_wp2_with fail;exact ay (v:=.tuple #[.agg #[ab 0,ab 0,af .empty,ae none 0 0,ab 0,ab 0,af .empty,ae none 0 0,ae none 0 0,ab 0,ab 0,af .empty,ae none 0 0],.bool false]) (by simp[results,results144,go_sem,d0,d1,d2,d3,d4,d5,d6,d7,d8,d9,d10,d11,d12];rfl) rfl (mD n ((rO _ _ _ _ _ _ _ _ _ _ _ _ _ _ _).below l (by omega)))
theorem uk(M _n:Nat)(k l:Int)(s:ap)(xa:au)(n xc:Nat)(m:ap)(a po c:Nat)(w:ag)(o:Option (Cl (M+1)))(q:Hid (o=none))(u:(m.toList==[111,110])=true)(r:a<w.heap.size)(j:Int)(f:ah w a (po+8) (ab j))(x:(j !=4)=true)(d:Hid (∀w1,am w w1->ao 104 #[.agg #[ab k,ab l,af s,ae xa n xc]] w1 λe w'=>e=.returned (.tuple #[af m,ae (some ⟨a,po,none⟩) 4 c])/\am w1 w')):ao 144 #[.agg #[ab k,ab l,af s,ae xa n xc]] w (jG M o w):=by
 go_enter func144,ntmps144;go_wp2_with fail;refine(d _ (by go_grown)).mono ?_;rintro e w1 ⟨rfl,g⟩;obtain⟨t,i,h,A⟩:=eN g;have b:=aq h;have p:=aq i;clear g t i h d;replace f:=(aw b _ _ r).trans f;have y:a<w1.heap.size:=by omega
 obtain⟨⟨d0,d1,d2,d3,d4,d5,d6,d7,d8,d9,d10,d11,d12⟩,f0,z⟩:=uz p;go_wp2_with fail;exact ay (v:=.tuple #[.agg #[ab 0,ab 0,af .empty,ae none 0 0,ab 0,ab 0,af .empty,ae none 0 0,ae none 0 0,ab 0,ab 0,af .empty,ae none 0 0],.bool false]) (by simp[results,results144,go_sem,d0,d1,d2,d3,d4,d5,d6,d7,d8,d9,d10,d11,d12];rfl) rfl (mD q ((rO _ _ _ _ _ _ _ _ _ _ _ _ _ _ _).below b (by omega)))
theorem NV{n g a po:Nat}{w w':ag}{y x t:Tm (n+1)}(d:a<g)(c:bR g w w')(k:(ah w a po (ab y.1.1)/\ah w a (po+1) (ab y.1.2.1)/\ah w a (po+2) (af y.1.2.2)/\ah w a (po+3) (ae y.2.1.1 y.2.2.length y.2.1.2))/\(ah w a (po+4) (ab x.1.1)/\ah w a (po+5) (ab x.1.2.1)/\ah w a (po+6) (af x.1.2.2)/\ah w a (po+7) (ae x.2.1.1 x.2.2.length x.2.1.2))/\(ah w a (po+12) (ab t.1.1)/\ah w a (po+13) (ab t.1.2.1)/\ah w a (po+14) (af t.1.2.2)/\ah w a (po+15) (ae t.2.1.1 t.2.2.length t.2.1.2))):(ah w' a po (ab y.1.1)/\ah w' a (po+1) (ab y.1.2.1)/\ah w' a (po+2) (af y.1.2.2)/\ah w' a (po+3) (ae y.2.1.1 y.2.2.length y.2.1.2))/\(ah w' a (po+4) (ab x.1.1)/\ah w' a (po+5) (ab x.1.2.1)/\ah w' a (po+6) (af x.1.2.2)/\ah w' a (po+7) (ae x.2.1.1 x.2.2.length x.2.1.2))/\(ah w' a (po+12) (ab t.1.1)/\ah w' a (po+13) (ab t.1.2.1)/\ah w' a (po+14) (af t.1.2.2)/\ah w' a (po+15) (ae t.2.1.1 t.2.2.length t.2.1.2)):=by
 have b:=λo=>gu c (show a≠g by omega) o;exact⟨⟨(b _).trans k.1.1,(b _).trans k.1.2.1,(b _).trans k.1.2.2.1,(b _).trans k.1.2.2.2⟩,⟨(b _).trans k.2.1.1,(b _).trans k.2.1.2.1,(b _).trans k.2.1.2.2.1,(b _).trans k.2.1.2.2.2⟩,(b _).trans k.2.2.1,(b _).trans k.2.2.2.1,(b _).trans k.2.2.2.2.1,(b _).trans k.2.2.2.2.2⟩
theorem ul(M n:Nat)(k aS:Int)(s:ap)(xa:au)(aW xc:Nat)(aV:ap)(d po c:Nat)(w:ag)(y x m t:Tm (n+1))(aj:n+1<=M+1)(ar:Option (List (Ac (M+1))))(o:Option (Cl (M+1)))(aL:Hid (o=ar.map λl=>((aZ (M+1) (n+1) y,aZ (M+1) (n+1) x,aZ (M+1) (n+1) t),(none,0),l)))(bl:(aV.toList==[111,110])=true)(h:d<w.heap.size)(Q:ah w d po (ab y.1.1))(R:ah w d (po+1) (ab y.1.2.1))(S:ah w d (po+2) (af y.1.2.2))(T:ah w d (po+3) (ae y.2.1.1 y.2.2.length y.2.1.2))(K:ah w d (po+4) (ab x.1.1))(L:ah w d (po+5) (ab x.1.2.1))(N:ah w d (po+6) (af x.1.2.2))(O:ah w d (po+7) (ae x.2.1.1 x.2.2.length x.2.1.2))(X:ah w d (po+8) (ab m.1.1))(ak:ah w d (po+9) (ab m.1.2.1))(al:ah w d (po+10) (af m.1.2.2))(an:ah w d (po+11) (ae m.2.1.1 m.2.2.length m.2.1.2))(G:ah w d (po+12) (ab t.1.1))(H:ah w d (po+13) (ab t.1.2.1))(I:ah w d (po+14) (af t.1.2.2))(J:ah w d (po+15) (ae t.2.1.1 t.2.2.length t.2.1.2))(ba:m.1.1=4)(aF:Hid (∀w1,am w w1->ao 104 #[.agg #[ab k,ab aS,af s,ae xa aW xc]] w1 λe w'=>e=.returned (.tuple #[af aV,ae (some ⟨d,po,none⟩) 4 c])/\am w1 w'))(ax:Hid (∀w1,am w w1->ao 181 #[ae m.2.1.1 m.2.2.length m.2.1.2,.func (Fn.func 182) #[] #[]] w1 (lY 11 (gC (M+1)) (iY (M+1)) (mG (M+1)) (Dz (M+1)) ar w1)))(az:Hid (∀w1,am w w1->ao 56 #[.agg #[ab y.1.1,ab y.1.2.1,af y.1.2.2,ae y.2.1.1 y.2.2.length y.2.1.2]] w1 λe w'=>∃a:Tm (n+1),e=.returned (.agg #[ab a.1.1,ab a.1.2.1,af a.1.2.2,ae a.2.1.1 a.2.2.length a.2.1.2])/\Hid (am w1 w'/\In w'.heap.size w' (n+1) a/\cv (λq=>w1.heap.size<=q) (n+1) a/\aB (n+1) a (n+1) y=true)))(aC:Hid (∀w1,am w w1->ao 56 #[.agg #[ab x.1.1,ab x.1.2.1,af x.1.2.2,ae x.2.1.1 x.2.2.length x.2.1.2]] w1 λe w'=>∃a:Tm (n+1),e=.returned (.agg #[ab a.1.1,ab a.1.2.1,af a.1.2.2,ae a.2.1.1 a.2.2.length a.2.1.2])/\Hid (am w1 w'/\In w'.heap.size w' (n+1) a/\cv (λq=>w1.heap.size<=q) (n+1) a/\aB (n+1) a (n+1) x=true)))(aD:Hid (∀w1,am w w1->ao 56 #[.agg #[ab t.1.1,ab t.1.2.1,af t.1.2.2,ae t.2.1.1 t.2.2.length t.2.1.2]] w1 λe w'=>∃a:Tm (n+1),e=.returned (.agg #[ab a.1.1,ab a.1.2.1,af a.1.2.2,ae a.2.1.1 a.2.2.length a.2.1.2])/\Hid (am w1 w'/\In w'.heap.size w' (n+1) a/\cv (λq=>w1.heap.size<=q) (n+1) a/\aB (n+1) a (n+1) t=true))):ao 144 #[.agg #[ab k,ab aS,af s,ae xa aW xc]] w (jG M o w):=by
 go_enter func144,ntmps144;go_wp2_with fail;refine(aF _ (by go_grown)).mono ?_;rintro e w1 ⟨rfl,aH⟩;obtain⟨be,aP,aI,bq⟩:=eN aH;have f:=aq aI;have aG:=aq aP;clear aH be aP aI aF;replace Q:=(aw f _ _ h).trans Q;replace R:=(aw f _ _ h).trans R;replace S:=(aw f _ _ h).trans S;replace T:=(aw f _ _ h).trans T;replace K:=(aw f _ _ h).trans K;replace L:=(aw f _ _ h).trans L;replace N:=(aw f _ _ h).trans N;replace O:=(aw f _ _ h).trans O;replace X:=(aw f _ _ h).trans X;replace ak:=(aw f _ _ h).trans ak;replace al:=(aw f _ _ h).trans al;replace an:=(aw f _ _ h).trans an;replace G:=(aw f _ _ h).trans G;replace H:=(aw f _ _ h).trans H;replace I:=(aw f _ _ h).trans I;replace J:=(aw f _ _ h).trans J;have bc:d<w1.heap.size:=by omega
 rw[ba]at X;go_wp2_with fail;refine(ax _ f).mono ?_;rintro e u ⟨l,j,r,av,rfl,aE⟩;have U:=aq aE.1;have z:Hid (am w u):=f.trans (U.mono f.size);have a1:=aq ((U.block (w.heap.size+1) (by omega)).trans aG);have bm:w1.heap.size<=u.heap.size:=U.size;have bd:d<u.heap.size:=by omega
 have B:Hid (∀w',am u w'->(ah w' d po (ab y.1.1)/\ah w' d (po+1) (ab y.1.2.1)/\ah w' d (po+2) (af y.1.2.2)/\ah w' d (po+3) (ae y.2.1.1 y.2.2.length y.2.1.2))/\(ah w' d (po+4) (ab x.1.1)/\ah w' d (po+5) (ab x.1.2.1)/\ah w' d (po+6) (af x.1.2.2)/\ah w' d (po+7) (ae x.2.1.1 x.2.2.length x.2.1.2))/\(ah w' d (po+12) (ab t.1.1)/\ah w' d (po+13) (ab t.1.2.1)/\ah w' d (po+14) (af t.1.2.2)/\ah w' d (po+15) (ae t.2.1.1 t.2.2.length t.2.1.2))):=λw' a4=>by
  have i:=λo=>(aw a4 d o bd).trans (aw U d o bc);exact⟨⟨(i _).trans Q,(i _).trans R,(i _).trans S,(i _).trans T⟩,⟨(i _).trans K,(i _).trans L,(i _).trans N,(i _).trans O⟩,(i _).trans G,(i _).trans H,(i _).trans I,(i _).trans J⟩
 obtain⟨W,ai⟩:∃W,l.length=W:=⟨_,rfl⟩;rw[ai];have a0:=aq ai;clear ax aG Q R S T K L N O X ak al an G H I J ai;obtain⟨⟨Q,R,S,T⟩,⟨K,L,N,O⟩,G,H,I,J⟩:=B.out u (aA _ _);go_wp2_with fail
 go_region_held3 (λw'=>(ah w' d po (ab y.1.1)/\ah w' d (po+1) (ab y.1.2.1)/\ah w' d (po+2) (af y.1.2.2)/\ah w' d (po+3) (ae y.2.1.1 y.2.2.length y.2.1.2))/\(ah w' d (po+4) (ab x.1.1)/\ah w' d (po+5) (ab x.1.2.1)/\ah w' d (po+6) (af x.1.2.2)/\ah w' d (po+7) (ae x.2.1.1 x.2.2.length x.2.1.2))/\(ah w' d (po+12) (ab t.1.1)/\ah w' d (po+13) (ab t.1.2.1)/\ah w' d (po+14) (af t.1.2.2)/\ah w' d (po+15) (ae t.2.1.1 t.2.2.length t.2.1.2))) (first|with_reducible assumption|with_reducible exact B.out _ A.out|with_reducible exact B.out _ F.out|with_reducible exact B.out _ E.out|with_reducible exact aY.out _ (rO _ _ _ _ _ _ _ _ _ _ _ _ _ _ _)|exact B.out _ (aA _ _).drew)
  ((first
   | (go_at_call 56;refine(az _ z.drew).mono ?_;rintro e aT ⟨a,rfl,V⟩;have E:=aq (cW V.1);clear az)
   | (go_at_call 56;refine(aC _ (z.trans (E.mono z.size))).mono ?_;rintro e aU ⟨q,rfl,C⟩;have F:=aq (E.trans (C.1.mono E.size));clear aC)
   | (go_at_call 56;refine(aD _ (z.trans (F.mono z.size))).mono ?_;rintro e p ⟨g,rfl,D⟩;have A:=aq (F.trans (D.1.mono F.size));clear aD;have a2:=aq ((A.block (w.heap.size+1) (by omega)).trans a1);obtain⟨⟨d0,d1,d2,d3,d4,d5,d6,d7,d8,d9,d10,d11,d12⟩,f0,bp⟩:=uz a2;have aY:=aq (λa3 (a7:bR (w.heap.size+1) p a3)=>NV (y:=y) (x:=x) (t:=t) (show d<w.heap.size+1 by omega) a7 (B _ A)))))
 go_wp2_with fail;have aX:Hid (am w p):=z.trans (A.mono z.size);have bn:u.heap.size<=aT.heap.size:=E.size;have bo:u.heap.size<=aU.heap.size:=F.size;have aO:=D.1;have aN:=C.1.trans (D.1.mono C.1.size);have Y:=jl (M:=M) aj ((V.2.1.below aN).mono aN.size) (V.2.2.1.mono λq (aM:u.heap.size<=q)=>(show w.heap.size+1<q by omega)) V.2.2.2;have Z:=jl (M:=M) aj ((C.2.1.below aO).mono aO.size) (C.2.2.1.mono λq (aM:aT.heap.size<=q)=>(show w.heap.size+1<q by omega)) C.2.2.2;have aa:=jl (M:=M) aj D.2.1 (D.2.2.1.mono λq (aM:aU.heap.size<=q)=>(show w.heap.size+1<q by omega)) D.2.2.2;refine ay (v:=.tuple #[.agg #[ab a.1.1,ab a.1.2.1,af a.1.2.2,ae a.2.1.1 a.2.2.length a.2.1.2,ab q.1.1,ab q.1.2.1,af q.1.2.2,ae q.2.1.1 q.2.2.length q.2.1.2,ae j W r,ab g.1.1,ab g.1.2.1,af g.1.2.2,ae g.2.1.1 g.2.2.length g.2.1.2],.bool av]) (by simp[results,results144,go_sem,d0,d1,d2,d3,d4,d5,d6,d7,d8,d9,d10,d11,d12]) rfl ?_;have e:fq (M+1) ((aZ (M+1) (n+1) a,aZ (M+1) (n+1) q,aZ (M+1) (n+1) g),(j,r),l)=[ab a.1.1,ab a.1.2.1,af a.1.2.2,ae a.2.1.1 a.2.2.length a.2.1.2,ab q.1.1,ab q.1.2.1,af q.1.2.2,ae q.2.1.1 q.2.2.length q.2.1.2,ae j W r,ab g.1.1,ab g.1.2.1,af g.1.2.2,ae g.2.1.1 g.2.2.length g.2.1.2]:=by
  show iL (M+1) (aZ (M+1) (n+1) a)++iL (M+1) (aZ (M+1) (n+1) q)++(ae j l.length r::iL (M+1) (aZ (M+1) (n+1) g))=_;rw[gN,gN,gN,a0.out];rfl
 have aR:∀w',bR (w.heap.size+1) p w'->jG M o w (.returned (.tuple #[.agg (fq (M+1) ((aZ (M+1) (n+1) a,aZ (M+1) (n+1) q,aZ (M+1) (n+1) g),(j,r),l)).toArray,.bool av])) w':=λw' aK=>by
  obtain⟨br,bf,bg,bh,bi,bj⟩:=aE;have ad:=cQ (fV (M+1)) 11 (gC (M+1)) j;have a8:qv p.heap.size p 11 (gC (M+1)) (iY (M+1) p.heap.size p) j l:=ad.mono A.size (ad.below A bh);have bb:ub (mG (M+1) (λb=>w.heap.size+1<b)) (λb=>w.heap.size+1<b) j l:=ad.1 _ _ _ (λb (a5:w1.heap.size<=b)=>(show w.heap.size+1<b by omega)) bi;have a6:iz (M+1) p.heap.size p ((aZ (M+1) (n+1) a,aZ (M+1) (n+1) q,aZ (M+1) (n+1) g),(j,r),l):=⟨⟨Y.1,Z.1,aa.1⟩,bg,a8⟩;have aJ:ki (M+1) (λb=>w.heap.size+1<b) ((aZ (M+1) (n+1) a,aZ (M+1) (n+1) q,aZ (M+1) (n+1) g),(j,r),l):=⟨⟨Y.2.1,Z.2.1,aa.2.1⟩,bb⟩;refine⟨((aZ (M+1) (n+1) a,aZ (M+1) (n+1) q,aZ (M+1) (n+1) g),(j,r),l),av,rfl,aK.below aX (by omega),?_,aK.stays (eK _) (P:=λb=>w.heap.size+1<b) (by omega) aJ a6,(eK _).1 _ _ _ (λb (a5:w.heap.size+1<b)=>(show w.heap.size<=b by omega)) aJ,λbs aQ=>?_⟩
  ·rw[bf,aL.out];cases ar<;>rfl
  ·rw[aL.out]at aQ;obtain⟨bk,a9,rfl⟩:=cD.1 aQ;exact⟨⟨Y.2.2,Z.2.2,aa.2.2⟩,bj bk a9⟩
 rw[e]at aR;exact aR _ (rO _ _ _ _ _ _ _ _ _ _ _ _ _ _ _)
theorem ww(M n:Nat)(ap:n<=M+1)(x:Tm n)(B:Nat)(w:ag)(K:In B w n x)(Y:aJ ⟨n,x⟩)(g:B<=w.heap.size):ao 144 #[dB n x] w (jG M (Ap M n x) w):=by
 cases n with
 | zero=>exact K.elim
 | succ n=>
 obtain⟨G,c,i,an,am,m⟩:=r7 n x B w K g;show ao 144 #[.agg #[ab x.1.1,ab x.1.2.1,af x.1.2.2,ae x.2.1.1 x.2.2.length x.2.1.2]] w (jG M (te M n (ft n x) (bV n x)) w);have r:∀e∈bV n x,aJ ⟨n,e⟩:=λe j=>eM Y j;generalize ft n x=b at*;generalize bV n x=d at*;have F:tH b Mx=(b.toList==[111,110]):=nQ b [111,110];have get:∀k,k<d.length->∃e,d[k]?=some e:=λk v=>⟨d[k],aN v⟩;by_cases f:(b.toList==[111,110])=true
 ·by_cases q:d.length=4
  ·obtain⟨e,j⟩:=get 0 (by omega);obtain⟨u,D⟩:=get 1 (by omega);obtain⟨a,y⟩:=get 2 (by omega);obtain⟨t,C⟩:=get 3 (by omega);have h:te M n b d=if b8 ⟨n,a⟩=4 then (cV (td M (n-1)) (Fy n a)).map λl=>((aZ (M+1) n e,aZ (M+1) n u,aZ (M+1) n t),(none,0),l)else none:=by
    unfold te;rw[if_pos (by rw[F,f,q];rfl),j,D,y,C];rfl
   rw[q]at m;obtain⟨N,po,rfl⟩:=rQ i (by omega);cases n with
   | zero=>exact(sH i j).elim
   | succ n=>
   obtain⟨⟨O,P,Q,R⟩,aa,aq⟩:=iI i j;obtain⟨⟨d0,d1,d2,d3⟩,ad,_⟩:=iI i D;obtain⟨⟨L,ah,ai,aj⟩,I,_⟩:=iI i y;obtain⟨⟨S,T,U,V⟩,Z,_⟩:=iI i C;by_cases o:a.1.1=4
   ·have A:te M (n+1) b d=(cV (td M n) a.2.2).map λl=>((aZ (M+1) (n+1) e,aZ (M+1) (n+1) u,aZ (M+1) (n+1) t),(none,0),l):=by
      rw[h,if_pos (show b8 ⟨n+1,a⟩=4 from o)];rfl
    have J:=r a (aL y);have X:a.2.2.length<=8:=by
     exact mZ J o
    exact ul M n _ _ _ _ _ _ b N po c w e u a t (by omega) (cV (td M n) a.2.2) _ A f (by omega) (by simpa using O) (by simpa using P) (by simpa using Q) (by simpa using R) (by simpa using d0) (by simpa using d1) (by simpa using d2) (by simpa using d3) (by simpa using L) (by simpa using ah) (by simpa using ai) (by simpa using aj) (by simpa using S) (by simpa using T) (by simpa using U) (by simpa using V) o m
     (λak p=>Aw M n a.2.2 a.2.2.length rfl X a.2.1.1 a.2.1.2 B ak ((show fU B w n a.2.2 a.2.1.1 from I.2).below (p.mono g)) (aF g p.size) (λE s al W=>by
      have H:=p.trans (W.mono p.size);obtain⟨k,v⟩:=di s;rcases I.2 with z|⟨_,_,_,_,z⟩
      ·rw[z]at s;cases s
      ·exact Cy M n (by omega) E B al ((z k E v).2.below (H.mono g)) (bi n a E J s) (aF g H.size)))
     (mP aa (r e (aL j)) g) (mP ad (r u (aL D)) g) (mP Z (r t (aL C)) g)
   ·have A:te M (n+1) b d=none:=by rw[h,if_neg (show¬b8 ⟨n+1,a⟩=4 from o)]
    exact uk M n _ _ _ _ _ _ b N po c w _ A f (by omega) a.1.1 (by simpa using L) (by simpa using o) m
  ·have h:te M n b d=none:=by simp[te,q]
   exact wC M n _ _ _ _ _ _ b G d.length c w _ h f (vP q) (by simp;omega) m
 replace f:=o7 f;have h:te M n b d=none:=by simp[te,F,f]
 exact um M n _ _ _ _ _ _ b G d.length c w _ h f m
abbrev p9(M:Nat)(o:Option (Bh (M+1)))(w:ag)(e:Ending)(w':ag):Prop:=ru (pW (M+1)) (pU (M+1)) (kh (M+1)) (zr (M+1)) o w e w'
theorem yw{n:Nat}{x:Tm (n+1)}(b:aJ ⟨n+1,x⟩):(bV n x).length<=8:=by
 unfold bV;split
 ·rename_i a;have:=mZ b a;split
  ·split
   ·rw[fo];omega
   ·simp
  ·simp
 ·simp
theorem K4{n:Nat}{a:Tm (n+1)}(d:aJ ⟨n+1,a⟩)(b:a.1.1=2):a.1.2.2.size<=2048:=by
 have:=d (bL n a) (by simp[aC,bL]);have c:ei a.1.2.2=true:=by
  simp only[cN,bL,b]at this;simp at this;exact this.1.1
 simp only[ei,rh,aK,cr]at c;omega
theorem BX{n B:Nat}{w:ag}{q:List (Tm n)}{a:au}(b:fU B w n q a){y:Tm n}(c:y∈q):In B w n y:=by
 rcases b with b|⟨_,_,_,_,b⟩
 ·subst b;cases c
 ·obtain⟨e,d⟩:=di c;exact(b e y d).2
theorem qM{M:Nat}{o:Option (Bh (M+1))}{w w':ag}(b:o=none)(a:am w w'):p9 M o w (.returned (.tuple #[.agg #[af .empty,ae none 0 0],.bool false])) w':=by
 subst b;exact⟨(.empty,(none,0),[]),false,rfl,a,rfl,⟨aM _,⟨av _,aM _⟩,aj rfl⟩,aj rfl,λd c=>by cases c⟩
theorem Az(M _n:Nat)(k i:Int)(s:ap)(xa:au)(l xc:Nat)(j:ap)(a:au)(len c:Nat)(w:ag)(o:Option (Bh (M+1)))(n:Hid (o=none))(r:(j.toList==[98,101,104])=false)(d:Hid (∀w1,am w w1->ao 104 #[.agg #[ab k,ab i,af s,ae xa l xc]] w1 λe w'=>e=.returned (.tuple #[af j,ae a len c])/\am w1 w')):ao 106 #[.agg #[ab k,ab i,af s,ae xa l xc]] w (p9 M o w):=by
 go_enter func106,ntmps106;go_wp2_with fail;refine(d _ (by go_grown)).mono ?_;rintro e w1 ⟨rfl,f⟩;obtain⟨p,h,g,u⟩:=eN f;have m:=aq g;have b:=aq h;clear f p h g d;have d0:w1.cell? ⟨w.heap.size+1,0,none⟩=some (af ⟨#[]⟩):=ax b 0;have d1:w1.cell? ⟨w.heap.size+1,1,none⟩=some (ae none 0 0):=ax b 1;have f0:=λq=>dg b q;have t:w.heap.size+1<w1.heap.size:=(aI.1 b).1;go_wp2_with fail;exact ay (v:=.tuple #[.agg #[af .empty,ae none 0 0],.bool false]) (by simp[results,results106,go_sem,d0,d1];rfl) rfl (qM n ((bR.set (bR.set (bR.refl _ _) _ _) _ _).below m (by omega)))
theorem CA(M _n:Nat)(k i:Int)(s:ap)(xa:au)(l xc:Nat)(j:ap)(a:au)(len c:Nat)(w:ag)(o:Option (Bh (M+1)))(n:Hid (o=none))(r:(j.toList==[98,101,104])=true)(t:(len:Int)<1)(d:Hid (∀w1,am w w1->ao 104 #[.agg #[ab k,ab i,af s,ae xa l xc]] w1 λe w'=>e=.returned (.tuple #[af j,ae a len c])/\am w1 w')):ao 106 #[.agg #[ab k,ab i,af s,ae xa l xc]] w (p9 M o w):=by
 go_enter func106,ntmps106;go_wp2_with fail;refine(d _ (by go_grown)).mono ?_;rintro e w1 ⟨rfl,f⟩;obtain⟨p,h,g,x⟩:=eN f;have m:=aq g;have b:=aq h;clear f p h g d;have d0:w1.cell? ⟨w.heap.size+1,0,none⟩=some (af ⟨#[]⟩):=ax b 0;have d1:w1.cell? ⟨w.heap.size+1,1,none⟩=some (ae none 0 0):=ax b 1;have f0:=λq=>dg b q;have u:w.heap.size+1<w1.heap.size:=(aI.1 b).1;go_wp2_with fail;exact ay (v:=.tuple #[.agg #[af .empty,ae none 0 0],.bool false]) (by simp[results,results106,go_sem,d0,d1];rfl) rfl (qM n ((bR.set (bR.set (bR.refl _ _) _ _) _ _).below m (by omega)))
theorem Ax(M _n:Nat)(k m:Int)(s:ap)(xa:au)(p xc:Nat)(n:ap)(b po len c:Nat)(w:ag)(o:Option (Bh (M+1)))(q:Hid (o=none))(x:(n.toList==[98,101,104])=true)(z:¬(len:Int)<1)(A:(0:Int)<(len:Int))(r:b<w.heap.size)(l:Int)(g:ah w b po (ab l))(y:(l !=2)=true)(f:Hid (∀w1,am w w1->ao 104 #[.agg #[ab k,ab m,af s,ae xa p xc]] w1 λe w'=>e=.returned (.tuple #[af n,ae (some ⟨b,po,none⟩) len c])/\am w1 w')):ao 106 #[.agg #[ab k,ab m,af s,ae xa p xc]] w (p9 M o w):=by
 go_enter func106,ntmps106;go_wp2_with fail;refine(f _ (by go_grown)).mono ?_;rintro e w1 ⟨rfl,h⟩;obtain⟨t,j,i,D⟩:=eN h;have d:=aq i;have a:=aq j;clear h t j i f;replace g:=(aw d _ _ r).trans g;have B:b<w1.heap.size:=by omega
 have d0:w1.cell? ⟨w.heap.size+1,0,none⟩=some (af ⟨#[]⟩):=ax a 0;have d1:w1.cell? ⟨w.heap.size+1,1,none⟩=some (ae none 0 0):=ax a 1;have f0:=λu=>dg a u;have C:w.heap.size+1<w1.heap.size:=(aI.1 a).1;go_wp2_with fail;exact ay (v:=.tuple #[.agg #[af .empty,ae none 0 0],.bool false]) (by simp[results,results106,go_sem,d0,d1];rfl) rfl (qM q ((bR.set (bR.set (bR.refl _ _) _ _) _ _).below d (by omega)))
theorem CC(M _n:Nat)(k Q:Int)(s:ap)(xa:au)(S xc:Nat)(R:ap)(d po:Nat)(w:ag)(y2:ap)(ad:y2.size<=2048)(t:Option (List (Cl (M+1))))(o:Option (Bh (M+1)))(J:Hid (o=t.map λl=>(y2,(none,0),l)))(aA:(R.toList==[98,101,104])=true)(K:d<w.heap.size)(m:ah w d po (ab 2))(n:ah w d (po+2) (af y2))(C:Hid (∀w1,am w w1->ao 104 #[.agg #[ab k,ab Q,af s,ae xa S xc]] w1 λe w'=>e=.returned (.tuple #[af R,ae (some ⟨d,po,none⟩) 1 1])/\am w1 w'))(y:Hid (∀w1,am w w1->ao 143 #[ae (some ⟨d,po,none⟩) 0 0,.func (Fn.func 144) #[] #[]] w1 (lY 13 (fq (M+1)) (iz (M+1)) (ki (M+1)) (Ds (M+1)) t w1))):ao 106 #[.agg #[ab k,ab Q,af s,ae xa S xc]] w (p9 M o w):=by
 go_enter func106,ntmps106;go_wp2_with fail;refine(C _ (by go_grown)).mono ?_;rintro e w1 ⟨rfl,F⟩;obtain⟨aa,N,G,aE⟩:=eN F;have f:=aq G;have D:=aq N;clear F aa N G C;replace m:=(aw f _ _ K).trans m;replace n:=(aw f _ _ K).trans n;have L:d<w1.heap.size:=by omega
 go_wp2_with fail;refine(y _ f).mono ?_;rintro e x ⟨l,c,i,u,rfl,B⟩;have g:=aq B.1;have z:Hid (am w x):=f.trans (g.mono f.size);have E:=aq ((g.block (w.heap.size+1) (by omega)).trans D);have aB:w1.heap.size<=x.heap.size:=g.size;have aC:d<x.heap.size:=by omega
 replace m:=(aw g _ _ L).trans m;replace n:=(aw g _ _ L).trans n;obtain⟨j,r⟩:∃j,l.length=j:=⟨_,rfl⟩;rw[r];have U:=aq r;clear y D r;go_wp2_with fail;refine(en _ _ ad).mono ?_;rintro e a ⟨rfl,p⟩;have A:=aq p;have T:Hid (am w a):=z.trans (p.mono z.size);have h:=aq ((p.block (w.heap.size+1) (by omega)).trans E);have d0:a.cell? ⟨w.heap.size+1,0,none⟩=some (af ⟨#[]⟩):=ax h 0;have d1:a.cell? ⟨w.heap.size+1,1,none⟩=some (ae none 0 0):=ax h 1;have f0:=λai=>dg h ai;have aD:w.heap.size+1<a.heap.size:=(aI.1 h).1;clear p E h;go_wp2_with fail;refine ay (v:=.tuple #[.agg #[af y2,ae c j i],.bool u]) (by simp[results,results106,go_sem,d0,d1]) rfl ?_;have av:∀w',bR (w.heap.size+1) a w'->p9 M o w (.returned (.tuple #[.agg #[af y2,ae c j i],.bool u])) w':=λw' I=>by
  obtain⟨aF,aj,ak,al,an,ar⟩:=B;have q:=cQ (eK (M+1)) 13 (fq (M+1)) c;have X:qv a.heap.size a 13 (fq (M+1)) (iz (M+1) a.heap.size a) c l:=q.mono A.size (q.below A al);have Z:ub (ki (M+1) (λb=>w.heap.size+1<b)) (λb=>w.heap.size+1<b) c l:=q.1 _ _ _ (λb (V:w1.heap.size<=b)=>(show w.heap.size+1<b by omega)) an;have W:pU (M+1) a.heap.size a (y2,(c,i),l):=⟨(show y2.size<=maxLen by unfold maxLen;omega),ak,X⟩;have H:kh (M+1) (λb=>w.heap.size+1<b) (y2,(c,i),l):=Z;refine⟨(y2,(c,i),l),u,by rw[<-U.out];rfl,I.below T (by omega),?_,I.stays (ex _) (P:=λb=>w.heap.size+1<b) (by omega) H W,(ex _).1 _ _ _ (λb (V:w.heap.size+1<b)=>(show w.heap.size<=b by omega)) H,λaG O=>?_⟩
  ·rw[aj,J.out];cases t<;>rfl
  ·rw[J.out]at O;obtain⟨az,Y,rfl⟩:=cD.1 O;exact⟨rfl,ar az Y⟩
 exact av _ (bR.set (bR.set (bR.refl _ _) _ _) _ _)
theorem Ay(M _n:Nat)(k T:Int)(s:ap)(xa:au)(V xc:Nat)(U:ap)(f po L c:Nat)(w:ag)(y2:ap)(aj:y2.size<=2048)(u:Option (List (Cl (M+1))))(o:Option (Bh (M+1)))(N:Hid (o=u.map λl=>(y2,(none,0),l)))(aC:(U.toList==[98,101,104])=true)(O:f<w.heap.size)(_hl:¬(L:Int)<1)(K:(0:Int)<(L:Int))(aF:(1:Int)<=(L:Int))(_hlc:(L:Int)<=(c:Int))(aE:¬c=1)(_hcm:(c:Int)<=9223372036854775807)(n:ah w f po (ab 2))(p:ah w f (po+2) (af y2))(D:Hid (∀w1,am w w1->ao 104 #[.agg #[ab k,ab T,af s,ae xa V xc]] w1 λe w'=>e=.returned (.tuple #[af U,ae (some ⟨f,po,none⟩) L c])/\am w1 w'))(z:Hid (∀w1,am w w1->ao 143 #[ae (some ⟨f,po+4,none⟩) (L-1) (c-1),.func (Fn.func 144) #[] #[]] w1 (lY 13 (fq (M+1)) (iz (M+1)) (ki (M+1)) (Ds (M+1)) u w1))):ao 106 #[.agg #[ab k,ab T,af s,ae xa V xc]] w (p9 M o w):=by
 go_enter func106,ntmps106;go_wp2_with fail;refine(D _ (by go_grown)).mono ?_;rintro e w1 ⟨rfl,G⟩;obtain⟨ai,R,H,aJ⟩:=eN G;have g:=aq H;have E:=aq R;clear G ai R H D;replace n:=(aw g _ _ O).trans n;replace p:=(aw g _ _ O).trans p;have Q:f<w1.heap.size:=by omega
 go_wp2_with fail;refine(z _ g).mono ?_;rintro e y ⟨l,d,j,x,rfl,C⟩;have h:=aq C.1;have A:Hid (am w y):=g.trans (h.mono g.size);have F:=aq ((h.block (w.heap.size+1) (by omega)).trans E);have aD:w1.heap.size<=y.heap.size:=h.size;have aG:f<y.heap.size:=by omega
 replace n:=(aw h _ _ Q).trans n;replace p:=(aw h _ _ Q).trans p;obtain⟨m,t⟩:∃m,l.length=m:=⟨_,rfl⟩;rw[t];have X:=aq t;clear z E t;go_wp2_with fail;refine(en _ _ aj).mono ?_;rintro e a ⟨rfl,q⟩;have B:=aq q;have W:Hid (am w a):=A.trans (q.mono A.size);have i:=aq ((q.block (w.heap.size+1) (by omega)).trans F);have d0:a.cell? ⟨w.heap.size+1,0,none⟩=some (af ⟨#[]⟩):=ax i 0;have d1:a.cell? ⟨w.heap.size+1,1,none⟩=some (ae none 0 0):=ax i 1;have f0:=λak=>dg i ak;have aH:w.heap.size+1<a.heap.size:=(aI.1 i).1;clear q F i;go_wp2_with fail;refine ay (v:=.tuple #[.agg #[af y2,ae d m j],.bool x]) (by simp[results,results106,go_sem,d0,d1]) rfl ?_;have aA:∀w',bR (w.heap.size+1) a w'->p9 M o w (.returned (.tuple #[.agg #[af y2,ae d m j],.bool x])) w':=λw' J=>by
  obtain⟨aK,al,an,ar,av,az⟩:=C;have r:=cQ (eK (M+1)) 13 (fq (M+1)) d;have aa:qv a.heap.size a 13 (fq (M+1)) (iz (M+1) a.heap.size a) d l:=r.mono B.size (r.below B ar);have ad:ub (ki (M+1) (λb=>w.heap.size+1<b)) (λb=>w.heap.size+1<b) d l:=r.1 _ _ _ (λb (Y:w1.heap.size<=b)=>(show w.heap.size+1<b by omega)) av;have Z:pU (M+1) a.heap.size a (y2,(d,j),l):=⟨(show y2.size<=maxLen by unfold maxLen;omega),an,aa⟩;have I:kh (M+1) (λb=>w.heap.size+1<b) (y2,(d,j),l):=ad;refine⟨(y2,(d,j),l),x,by rw[<-X.out];rfl,J.below W (by omega),?_,J.stays (ex _) (P:=λb=>w.heap.size+1<b) (by omega) I Z,(ex _).1 _ _ _ (λb (Y:w.heap.size+1<b)=>(show w.heap.size<=b by omega)) I,λaL S=>?_⟩
  ·rw[al,N.out];cases u<;>rfl
  ·rw[N.out]at S;obtain⟨aB,K,rfl⟩:=cD.1 S;exact⟨rfl,az aB K⟩
 exact aA _ (bR.set (bR.set (bR.refl _ _) _ _) _ _)
theorem Cz(M n:Nat)(Z:n<=M+1)(x:Tm n)(B:Nat)(w:ag)(K:In B w n x)(H:aJ ⟨n,x⟩)(p:B<=w.heap.size):ao 106 #[dB n x] w (p9 M (Ao M n x) w):=by
 cases n with
 | zero=>exact K.elim
 | succ n=>
 obtain⟨D,c,h,S,Y,k⟩:=r7 n x B w K p;show ao 106 #[.agg #[ab x.1.1,ab x.1.2.1,af x.1.2.2,ae x.2.1.1 x.2.2.length x.2.1.2]] w (p9 M (uj M n (ft n x) (bV n x)) w);have I:∀d∈bV n x,aJ ⟨n,d⟩:=λd U=>eM H U;have R:(bV n x).length<=8:=yw H;generalize ft n x=e at*;generalize bV n x=a at*;have A:tH e uw=(e.toList==[98,101,104]):=nQ e [98,101,104];by_cases f:(e.toList==[98,101,104])=true
 ·cases a with
  | nil=>
   have g:uj M n e []=none:=by simp[uj]
   exact CA M n _ _ _ _ _ _ e D 0 c w _ g f (by omega) k
  | cons d a=>
   obtain⟨q,po,rfl⟩:=rQ h (by simp);cases n with
   | zero=>exact(sH h (show (d::a)[0]?=some d from rfl)).elim
   | succ n=>
   obtain⟨⟨m,W,E,X⟩,ad,aa⟩:=iI h (show (d::a)[0]?=some d from rfl);by_cases i:d.1.1=2
   ·have g:uj M (n+1) e (d::a)=(cV (Ap M (n+1)) a).map λl=>(d.1.2.2,(none,0),l):=by
      simp[uj,A,f,b8,i,yh,gF,bL]
    have J:d.1.2.2.size<=2048:=K4 (I d (by simp)) i;have G:fU B w (n+1) a (some ⟨q,po+4,none⟩):=by
     rcases h with h|⟨b,o,v,t,h⟩
     ·cases h
     ·injection v with v;injection v with O P;subst O P
      exact ak ⟨q,po+4,rfl,t,λz j y=>by
       have:=h (z+1) j (by simpa using y);rw[show po+4+z*4=po+(z+1)*4 by omega]
       exact this⟩
    have C:∀(j:au)(u:Nat),fU B w (n+1) a j->∀r,am w r->ao 143 #[ae j a.length u,.func (Fn.func 144) #[] #[]] r (lY 13 (fq (M+1)) (iz (M+1)) (ki (M+1)) (Ds (M+1)) (cV (Ap M (n+1)) a) r):=λj u y r s=>
     uo M (n+1) a a.length rfl (by simp at R;omega) j u B r (y.below (s.mono p)) (aF p s.size) (λN L V Q=>by
      have t:=s.trans (Q.mono s.size)
      exact ww M (n+1) (by omega) N B V ((BX G L).below (t.mono p)) (I N (by simp[L])) (aF p t.size))
    by_cases F:c=1
    ·have T:a=[]:=bI (by simp at S;omega);subst T F;exact CC M (n+1) _ _ _ _ _ _ e q po w d.1.2.2 J _ _ g f (by omega) (by rw[i]at m;simpa using m) (by simpa using E) k (C _ 0 (aj rfl))
    ·exact Ay M (n+1) _ _ _ _ _ _ e q po (d::a).length c w d.1.2.2 J _ _ g f (by omega) (by simp only[bu];omega) (by simp only[bu];omega) (by simp only[bu];omega) (by omega) F (by omega) (by rw[i]at m;simpa using m) (by simpa using E) k (C _ (c-1) G)
   ·have g:uj M (n+1) e (d::a)=none:=by simp[uj,b8,i]
    exact Ax M (n+1) _ _ _ _ _ _ e q po (d::a).length c w _ g f (by simp only[bu];omega) (by simp only[bu];omega) (by omega) d.1.1 (by simpa using m) (by simpa using i) k
 replace f:=o7 f;have g:uj M n e a=none:=by simp[uj,A,f]
 exact Az M n _ _ _ _ _ _ e D a.length c w _ g f k
abbrev uT(M:Nat)(o:Option (List (Bh (M+1))))(w:ag)(e:Ending)(w':ag):Prop:=lY 2 (pW (M+1)) (pU (M+1)) (kh (M+1)) (zr (M+1)) o w e w'
theorem Cw{M:Nat}{o:Option (List (Bh (M+1)))}{w w':ag}(b:o=none)(a:am w w'):uT M o w (.returned (.tuple #[ae none 0 0,.bool false])) w':=by
 subst b;exact⟨[],none,0,false,rfl,a,rfl,⟨av _,aM _⟩,aj rfl,aj rfl,λd c=>by cases c⟩
theorem xw(M _n:Nat)(k r:Int)(s:ap)(xa:au)(u xc:Nat)(t:ap)(a:au)(len c:Nat)(w:ag)(o:Option (List (Bh (M+1))))(b:Bool)(H:(t.toList==[99,111,100,101])=b)(p:Hid (b=false->o=none))(m:Hid (∀w1,am w w1->ao 104 #[.agg #[ab k,ab r,af s,ae xa u xc]] w1 λe w'=>e=.returned (.tuple #[af t,ae a len c])/\am w1 w'))(j:Hid (b=true->∀w1,am w w1->ao 105 #[ae a len c,.func (Fn.func 106) #[] #[]] w1 (uT M o w1))):ao 67 #[.agg #[ab k,ab r,af s,ae xa u xc]] w (uT M o w):=by
 cases b
 ·have HB:Hid (o=none):=p rfl;go_enter func67,ntmps67;go_wp2_with fail;refine(m _ (by go_grown)).mono ?_;rintro e w1 ⟨rfl,f⟩;have d:Hid (am w w1):=aX.trans (f.mono (by simp));clear f;go_wp2_with fail;exact ay (v:=.tuple #[ae none 0 0,.bool false]) (by simp[results,results67,go_sem]) rfl (Cw HB d)
 ·have x:=aq (j rfl);clear j p;go_enter func67,ntmps67;go_wp2_with fail;refine(m _ (by go_grown)).mono ?_;rintro e w1 ⟨rfl,f⟩;have d:Hid (am w w1):=aX.trans (f.mono (by simp));clear f;go_wp2_with fail;refine(x _ d).mono ?_;rintro e I ⟨l,h,n,q,rfl,y⟩;obtain⟨g,i⟩:∃g,l.length=g:=⟨_,rfl⟩;rw[i];have z:=aq i;clear i;go_wp2_with fail;refine ay (v:=.tuple #[ae h g n,.bool q]) (by simp[results,results67,go_sem]) rfl ?_;obtain⟨B,C,D,E,F,G⟩:=y;exact⟨l,h,n,q,by rw[z.out],d.trans (B.mono d.size),C,D,E,(cQ (ex _) 2 (pW (M+1)) h).1 _ _ _ (λb A=>aF d.size A) F,G⟩
theorem AA(M n:Nat)(A:n<=M+1)(x:Tm n)(B:Nat)(w:ag)(j:In B w n x)(i:aJ ⟨n,x⟩)(a:B<=w.heap.size):ao 67 #[dB n x] w (uT M (Cu M n x) w):=by
 cases n with
 | zero=>exact j.elim
 | succ n=>
 obtain⟨f,c,h,z,y,o⟩:=r7 n x B w j a;have s:∀l∈bV n x,aJ ⟨n,l⟩:=λl t=>eM i t;have r:(bV n x).length<=8:=yw i;have e:tH (ft n x) om=((ft n x).toList==[99,111,100,101]):=nQ _ [99,111,100,101];refine xw M n _ _ _ _ _ _ (ft n x) f (bV n x).length c w (Cu M (n+1) x) _ rfl (λd=>?_) o (λd u b=>?_)
 ·simp only[Cu,e,d];rfl
 ·have p:Cu M (n+1) x=cV (Ao M n) (bV n x):=by simp only[Cu,e,d];rfl
  rw[p]
  exact qN M n (bV n x) (bV n x).length rfl r f c B u (h.below (b.mono a)) (aF a b.size) (λm k v q=>by
   have g:=b.trans (q.mono b.size)
   exact Cz M n (by omega) m B v ((BX h k).below (g.mono a)) (s m k) (aF a g.size))
theorem BA{s:ap}(b:s.toList.isEmpty=true):s=.empty:=by
 apply vf;have a:ByteArray.empty.toList=[]:=by rw[cF];rfl
 rw[a];simpa using b
theorem yC{n:Nat}{x:Tm (n+1)}(f:aJ ⟨n+1,x⟩)(c:x.1.1=4):x.1=(4,0,.empty):=by
 have a:=f (bL n x) (by simp[aC,bL]);unfold cN at a;have b:(bL n x).1.1=4:=c;rw[if_neg (by rw[b];omega),if_neg (by rw[b];omega),if_neg (by rw[b];omega),if_pos b]at a;simp only[aK,co]at a;have d:x.1.2.2=.empty:=BA a.1.1.1;have e:x.1.2.1=0:=a.1.1.2;exact fJ c (fJ e d)
theorem qO{n:Nat}{x:Tm (n+1)}(g:aJ ⟨n+1,x⟩)(d:x.1.1=2):x.1=(2,0,x.1.2.2)/\x.2.2=[]/\ei x.1.2.2=true:=by
 have b:=g (bL n x) (by simp[aC,bL]);unfold cN at b;have c:(bL n x).1.1=2:=d;rw[if_neg (by rw[c];omega),if_pos c]at b;simp only[aK,iO,co]at b;obtain⟨⟨f,e⟩,a⟩:=b;refine⟨fJ d (fJ e rfl),?_,f⟩;rcases a with a|a
 ·rw[c]at a;omega
 ·have h:¬(0:Int)<(x.2.2.length:Int):=by simpa [bL]using a
  exact bI (by omega)
theorem yD{n:Nat}{x:Tm (n+1)}(g:aJ ⟨n+1,x⟩)(d:x.1.1=5):x.1=(5,x.1.2.1,.empty)/\x.2.2=[]/\0<=x.1.2.1/\x.1.2.1<=3:=by
 have c:=g (bL n x) (by simp[aC,bL]);unfold cN at c;have a:(bL n x).1.1=5:=d;rw[if_neg (by rw[a];omega),if_neg (by rw[a];omega),if_neg (by rw[a];omega),if_neg (by rw[a];omega),if_pos a]at c;simp only[aK,iO,co,rh,cr]at c;obtain⟨⟨f,e⟩,b⟩:=c;refine⟨fJ d (fJ rfl (BA f)),?_,e⟩;rcases b with b|b
 ·rw[a]at b;omega
 ·have h:¬(0:Int)<(x.2.2.length:Int):=by simpa [bL]using b
  exact bI (by omega)
theorem sM{n:Nat}{x:Tm (n+1)}(d:aJ ⟨n+1,x⟩)(b:x.1.1=2)(N:Nat):aB (N+1) (br x.1.2.2 N) (n+1) x=true:=by
 obtain⟨a,c,_⟩:=qO d b;refine dm a.symm ?_;rw[c];rfl
theorem Md{n:Nat}{x:Tm (n+1)}(d:aJ ⟨n+1,x⟩)(c:x.1.1=5)(N:Nat):aB (N+1) (bW 5 x.1.2.1 N) (n+1) x=true:=by
 obtain⟨a,b,_⟩:=yD d c;refine dm a.symm ?_;rw[b];rfl
theorem ic{n:Nat}{x:Tm (n+1)}(j:aJ ⟨n+1,x⟩){f:ap}(o:tH (ft n x) f=true)(b:f.toList≠[]):x.1=(4,0,.empty)/\∃i,x.2.2=i::bV n x/\∀N,aB (N+1) (br f N) n i=true:=by
 have g:ByteArray.empty.toList=[]:=by rw[cF];rfl
 have a:ft n x=f:=vf o;unfold ft at a;by_cases e:x.1.1=4
 ·rw[if_pos e]at a;refine⟨yC j e,?_⟩;obtain⟨⟨k,r,q⟩,⟨p,c⟩,l⟩:=x;simp only at e a;subst e;cases l with
  | nil=>
   simp at a;rw[<-a,g]at b;exact(b rfl).elim
  | cons d l=>
   simp only[dc]at a;cases n with
   | zero=>
    simp[b8]at a;rw[<-a,g]at b;exact(b rfl).elim
   | succ n=>
    by_cases h:d.1.1=2
    ·refine⟨d,by simp[bV,b8,h],λN=>?_⟩;have m:f=d.1.2.2:=by
      rw[if_pos (show b8 ⟨n+1,d⟩=2 from h)]at a;exact a.symm
     rw[m];exact sM (bi (n+1) _ d j (by simp)) h N
    ·rw[if_neg (show¬b8 ⟨n+1,d⟩=2 from h)]at a;rw[<-a,g]at b;exact(b rfl).elim
 ·rw[if_neg e]at a;rw[<-a,g]at b;exact(b rfl).elim
theorem oc(l:List UInt8)(a:l≠[]):(⟨l.toArray⟩:ap).toList≠[]:=by rw[kG];exact a
theorem mX{M n:Nat}(a:n<=M+1){y:Tm n}(b:aJ ⟨n,y⟩):aB (M+1) (aZ (M+1) n y) n y=true:=mT (M+1) n a y (fO n y b)
theorem KV{b:Type}{l:List b}{a:b}(c:l.length=1)(d:l[0]?=some a):l=[a]:=by
 match l,c with
 | [x],_=>simpa using d
theorem KW{e:Type}{l:List e}{a b:e}(f:l.length=2)(c:l[0]?=some a)(d:l[1]?=some b):l=[a,b]:=by
 match l,f with
 | [x,y],_=>
  simp at c d;rw[c,d]
theorem Ei{g:Type}{l:List g}{a b c:g}(h:l.length=3)(d:l[0]?=some a)(e:l[1]?=some b)(f:l[2]?=some c):l=[a,b,c]:=by
 match l,h with
 | [x,y,z],_=>
  simp at d e f;rw[d,e,f]
theorem Hx{i:Type}{l:List i}{a b c d:i}(j:l.length=4)(e:l[0]?=some a)(f:l[1]?=some b)(g:l[2]?=some c)(h:l[3]?=some d):l=[a,b,c,d]:=by
 match l,j with
 | [x,y,z,t],_=>
  simp at e f g h;rw[e,f,g,h]
theorem Lp(M:Nat):(n:Nat)->n<=M+1->(x:Tm n)->aJ ⟨n,x⟩->(a:Ac (M+1))->td M n x=some a->aB (M+2) (cE M a) n x=true/\ou (M+1) a=true
 | 0,_,_,hr,_,_=>(dv hr).elim
 | n+1,hn,x,hr,a,h=>by
  have e:∀y∈bV n x,aJ ⟨n,y⟩:=λy E=>eM hr E;have w:fj (M+1) (zT M)=true:=by
   have t:ByteArray.empty.toList=[]:=by rw[cF];rfl
   simp[fj,gF,bL,zT,t]
  have u:xu .empty 0=true:=by
   have t:ByteArray.empty.toList=[]:=by rw[cF];rfl
   simp[xu,t]
  have get:∀(d:List (Tm n))(s:Nat),s<d.length->∃y,d[s]?=some y/\y∈d:=λd s z=>⟨d[s],aN z,io z⟩;simp only[td,j0]at h;split at h
  ·rename_i b;simp only[aK,cr]at b;obtain⟨k,j,l,m⟩:=ic hr b.1 (oc [115,101,110,100] (by simp));obtain⟨c,f,p⟩:=get _ 0 (by rw[b.2];omega);obtain⟨d,q,v⟩:=get _ 1 (by rw[b.2];omega);rw[f,q]at h;have i:a=(1,(aZ (M+1) n c,aZ (M+1) n d),(.empty,0)):=by simpa using h.symm
   have o:bV n x=[c,d]:=KW b.2 f q;subst i;refine⟨dm k.symm ?_,u⟩;rw[l,o];show aG _ [br ni M,aZ (M+1) n c,aZ (M+1) n d] [j,c,d]=true;simp only[aG,m M,mX (M:=M) (by omega) (e c p),mX (M:=M) (by omega) (e d v),iN]
  split at h
  ·rename_i b;simp only[aK,cr]at b;obtain⟨k,j,l,m⟩:=ic hr b.1 (oc [115,112,97,119,110] (by simp));obtain⟨c,f,p⟩:=get _ 0 (by rw[b.2];omega);obtain⟨d,q,v⟩:=get _ 1 (by rw[b.2];omega);obtain⟨g,B,A⟩:=get _ 2 (by rw[b.2];omega);rw[f,q,B]at h;simp only[dP,Aq]at h;split at h
   ·rename_i r;have i:a=(2,(zT M,aZ (M+1) n d),(yh n c,pY n g)):=by simpa using h.symm
    have o:bV n x=[c,d,g]:=Ei b.2 f q B;subst i;cases n with
    | zero=>exact(dv (e c p)).elim
    | succ n=>
    have D:=yD (e g A) r.2;have C:=qO (e c p) r.1;refine⟨dm k.symm ?_,?_⟩
    ·rw[l,o];show aG _ [br jt M,br c.1.2.2 M,aZ (M+1) (n+1) d,bW 5 g.1.2.1 M] [j,c,d,g]=true;simp only[aG,m M,mX (M:=M) (by omega) (e d v),sM (e c p) r.1 M,Md (e g A) r.2 M,iN]
    ·show (fj (M+1) (zT M) && ei c.1.2.2 && decide (0<=g.1.2.1) && decide (g.1.2.1<4))=true;rw[w,C.2.2,iW D.2.2.1,iW (by omega)];rfl
   ·cases h
  split at h
  ·rename_i b;simp only[aK,cr]at b;obtain⟨k,j,l,m⟩:=ic hr b.1 (oc [108,105,110,107] (by simp));obtain⟨c,f,p⟩:=get _ 0 (by rw[b.2];omega);rw[f]at h;have i:a=(3,(aZ (M+1) n c,zT M),(.empty,0)):=by simpa using h.symm
   have o:bV n x=[c]:=KV b.2 f;subst i;refine⟨dm k.symm ?_,?_⟩
   ·rw[l,o];show aG _ [br nh M,aZ (M+1) n c] [j,c]=true;simp only[aG,m M,mX (M:=M) (by omega) (e c p),iN]
   ·show (fj (M+1) (zT M) && xu .empty 0)=true;rw[w,u];rfl
  split at h
  ·rename_i b;simp only[aK,cr]at b;obtain⟨k,j,l,m⟩:=ic hr b.1 (oc [115,116,111,112] (by simp));have i:a=(4,(zT M,zT M),(.empty,0)):=by simpa using h.symm
   have o:bV n x=[]:=bI b.2;subst i;refine⟨dm k.symm ?_,?_⟩
   ·rw[l,o];show aG _ [br mu M] [j]=true;simp only[aG,m M,iN]
   ·show (fj (M+1) (zT M) && fj (M+1) (zT M) && xu .empty 0)=true;rw[w,u];rfl
  ·cases h
theorem qd{b:Type}{f g:b->Bool}:{l:List b}->(∀x∈l,f x=g x)->l.all f=l.all g
 | [],_=>rfl
 | a::l,h=>by
  simp only[jz,h a (by simp),qd (l:=l) λx c=>h x (by simp[c])]
theorem oX{d:Type}{n N:Nat}{f:Tm n->Option d}{g:d->Tm N}{B:d->Bool}(e:∀x a,aJ ⟨n,x⟩->f x=some a->aB N (g a) n x=true/\B a=true):(p:List (Tm n))->(∀y∈p,aJ ⟨n,y⟩)->(l:List d)->cV f p=some l->aG (λa b=>aB N a n b) (l.map g) p=true/\l.all B=true/\l.length=p.length
 | [],_,l,c=>by
  simp[cV]at c;subst c;exact⟨rfl,rfl,rfl⟩
 | y::p,hr,l,c=>by
  simp only[cV]at c;obtain⟨a,k,c⟩:=bF.1 c;obtain⟨r,m,rfl⟩:=cD.1 c;obtain⟨h,i,j⟩:=oX e p (λt o=>hr t (by simp[o])) r m;obtain⟨q,s⟩:=e y a (hr y (by simp)) k;refine⟨?_,by simp[s,i],by simp[j]⟩;simp only[aV,aG,q,h,iN]
theorem qG{N M n:Nat}(c:n<=M+1)(b:M+1<=N){y:Tm n}(d:aJ ⟨n,y⟩):aB N (aZ N (M+1) (aZ (M+1) n y)) n y=true:=by
 have a:=mX c d;exact bP _ _ _ _ _ _ (mT N (M+1) b _ (yH a)) a
theorem Lr(M:Nat):(n:Nat)->n<=M+1->(x:Tm n)->aJ ⟨n,x⟩->(c:Cl (M+1))->Ap M n x=some c->aB (M+4) (dU M c) n x=true/\uc (M+1) c=true
 | 0,_,_,hr,_,_=>(dv hr).elim
 | n+1,hn,x,hr,c,h=>by
  have d:∀y∈bV n x,aJ ⟨n,y⟩:=λy e=>eM hr e;have get:∀(q:List (Tm n))(i:Nat),i<q.length->∃y,q[i]?=some y/\y∈q:=λq i j=>⟨q[i],aN j,io j⟩;simp only[Ap,te]at h;split at h
  ·rename_i b;simp only[aK,cr]at b;obtain⟨z,w,A,C⟩:=ic hr b.1 (oc [111,110] (by simp));obtain⟨p,k,m⟩:=get _ 0 (by rw[b.2];omega);obtain⟨q,o,I⟩:=get _ 1 (by rw[b.2];omega);obtain⟨r,u,f⟩:=get _ 2 (by rw[b.2];omega);obtain⟨t,v,J⟩:=get _ 3 (by rw[b.2];omega);rw[k,o,u,v]at h;simp only[dP]at h;split at h
   ·rename_i F;obtain⟨l,G,rfl⟩:=cD.1 h;have H:bV n x=[p,q,r,t]:=Hx b.2 k o u v;cases n with
    | zero=>exact(dv (d p m)).elim
    | succ n=>
    have s:r.1.1=4:=F;obtain⟨K,L,P⟩:=oX (g:=cE M) (B:=ou (M+1)) (λy a e E=>Lp M n (by omega) y e a E) r.2.2 (λy e=>bi n r y (d r f) e) l G;have O:=mZ (d r f) s;refine⟨dm z.symm ?_,?_⟩
    ·rw[A,H];show aG _ [br Mx (M+2),aZ (M+3) (M+1) (aZ (M+1) (n+1) p),aZ (M+3) (M+1) (aZ (M+1) (n+1) q),dr (M+2) (l.map (cE M)),aZ (M+3) (M+1) (aZ (M+1) (n+1) t)] [w,p,q,r,t]=true;have D:aB (M+3) (dr (M+2) (l.map (cE M))) (n+1) r=true:=dm (yC (d r f) s).symm K;simp only[aG,C (M+2),qG (N:=M+3) (M:=M) (by omega) (by omega) (d p m),qG (N:=M+3) (M:=M) (by omega) (by omega) (d q I),qG (N:=M+3) (M:=M) (by omega) (by omega) (d t J),D,iN]
    ·show (decide ((l.length:Int)<=8) && l.all (ou (M+1)))=true;rw[L,iW (by omega)];rfl
   ·cases h
  ·cases h
theorem Lq(M:Nat):(n:Nat)->n<=M+1->(x:Tm n)->aJ ⟨n,x⟩->(b:Bh (M+1))->Ao M n x=some b->aB (M+5) (ee M b) n x=true/\(ei b.1 && decide ((b.2.2.length:Int)<=6) && b.2.2.all (uc (M+1)))=true
 | 0,_,_,hr,_,_=>(dv hr).elim
 | n+1,hn,x,hr,b,a=>by
  have e:∀y∈bV n x,aJ ⟨n,y⟩:=λy d=>eM hr d;simp only[Ao,uj]at a;split at a
  ·rename_i u;obtain⟨h,r,i,s⟩:=ic hr u (oc [98,101,104] (by simp));obtain⟨p,m,a⟩:=bF.1 a;split at a
   ·rename_i k;obtain⟨l,v,rfl⟩:=cD.1 a;have z:x.1.1=4:=by rw[h]
    have j:=mZ hr z;generalize bV n x=f at*;cases f with
    | nil=>simp at m
    | cons c f=>
    have q:c=p:=by simpa using m
    subst q;cases n with
    | zero=>exact(dv (e c (by simp))).elim
    | succ n=>
    have w:=qO (e c (by simp)) k;obtain⟨A,C,D⟩:=oX (g:=dU M) (B:=uc (M+1)) (λy o d t=>Lr M (n+1) (by omega) y d o t) f (λy d=>e y (by simp[d])) l v;rw[i]at j;simp only[bu]at j;refine⟨dm h.symm ?_,?_⟩
    ·rw[i];show aG _ (br uw (M+3)::br c.1.2.2 (M+3)::l.map (dU M)) (r::c::f)=true;simp only[aG,s (M+3),sM (e c (by simp)) k (M+3),A,iN]
    ·show (ei c.1.2.2 && decide ((l.length:Int)<=6) && l.all (uc (M+1)))=true;rw[w.2.2,C,iW (by omega)];rfl
   ·cases a
  ·cases a
theorem Cv(M:Nat):(n:Nat)->n<=M+1->(x:Tm n)->aJ ⟨n,x⟩->(l:List (Bh (M+1)))->Cu M n x=some l->aB (M+6) (cg M l) n x=true/\kO (M+1) l=(decide (1<=(l.length:Int)) && l.all λb=>decide (1<=(b.2.2.length:Int)))
 | 0,_,_,hr,_,_=>(dv hr).elim
 | n+1,hn,x,hr,l,h=>by
  have r:∀y∈bV n x,aJ ⟨n,y⟩:=λy c=>eM hr c;simp only[Cu]at h;split at h
  ·rename_i a;obtain⟨d,o,e,p⟩:=ic hr a (oc [99,111,100,101] (by simp));have s:x.1.1=4:=by rw[d]
   have f:=mZ hr s;obtain⟨t,i,u⟩:=oX (g:=ee M) (B:=λb=>ei b.1 && decide ((b.2.2.length:Int)<=6) && b.2.2.all (uc (M+1))) (λy j c q=>Lq M n (by omega) y c j q) (bV n x) r l h;rw[e]at f;simp only[bu]at f;refine⟨dm d.symm ?_,?_⟩
   ·rw[e];show aG _ (br om (M+4)::l.map (ee M)) (o::bV n x)=true;simp only[aG,p (M+4),t,iN]
   ·have k:decide ((l.length:Int)<=7)=true:=iW (by omega);have m:l.all (xi (M+1))=l.all λb=>decide (1<=(b.2.2.length:Int)):=by
     rw[cG]at i;refine qd λb a=>?_;have:=i b a;simp only[aK]at this;simp only[xi,this.1.1,this.1.2,this.2,eQ,Bool.and_true]
    simp only[kO,k,m,Bool.and_true]
  ·cases h
theorem dZ{e β:Type}{f:e->β->Bool}{p:List e}{b:β}{q:List β}(c:aG f p (b::q)=true):∃a d,p=a::d/\f a b=true/\aG f d q=true:=by
 cases p with
 | nil=>simp[aG]at c
 | cons a p=>
  simp only[aG,aK]at c;exact⟨a,p,rfl,c.1,c.2⟩
theorem nb{a β:Type}{f:a->β->Bool}{p:List a}(b:aG f p ([]:List β)=true):p=[]:=by
 cases p with
 | nil=>rfl
 | cons c p=>simp[aG]at b
theorem LB{n m:Nat}{x:Tm n}{y:Tm (m+1)}(a:aB n x (m+1) y=true):(gF n x).1=y.1:=(Gi a).1
theorem od{N n:Nat}{x:Tm (N+1)}{c:ap}{ys:List (Tm (n+1))}(k:aB (N+1) x (n+2) (dr (n+1) (br c n::ys))=true):ft N x=c/\aG (λa b=>aB N a (n+1) b) (bV N x) ys=true:=by
 obtain⟨l,m⟩:=bN k;obtain⟨a,q,g,h,o⟩:=dZ m;have d:x.1.1=4:=by rw[l];rfl
 have e:=LB h;have i:b8 ⟨N,a⟩=2:=by
  cases N with
  | zero=>simp[aB]at h
  | succ N=>
   have:a.1.1=2:=by
    have j:a.1=(2,0,c):=e;rw[j]
   exact this
 have f:x.2.2[0]?=some a:=by rw[g];rfl
 have p:x.2.2.drop 1=q:=by rw[g];rfl
 constructor
 ·simp only[ft,d,de,f,i];rw[e];rfl
 ·simp only[bV,d,de,f,i,p];exact o
theorem lK(a:ap):tH a a=true:=by simp[tH]
theorem uy{m β:Type}{n:Nat}{f:Tm n->Option m}{R:Tm n->β->Prop}{Q:m->β->Prop}(g:∀y b,R y b->∃a,f y=some a/\Q a b):(q:List (Tm n))->(l:List β)->fe R q l->∃c,cV f q=some c/\fe Q c l
 | [],[],_=>⟨[],rfl,fe.nil⟩
 | [],_::_,h=>by have:=h.1;simp at this
 | _::_,[],h=>by have:=h.1;simp at this
 | y::q,b::l,h=>by
  obtain⟨a,o,k⟩:=g y b h.tail.1;obtain⟨c,p,j⟩:=uy g q l h.tail.2;refine⟨a::c,by simp[cV,o,p],by simp[j.1],λi r v d e=>?_⟩;cases i with
  | zero=>
   simp at d e;subst d e;exact k
  | succ i=>exact j.2 i r v (by simpa using d) (by simpa using e)
theorem mj{β:Type}{n m:Nat}(g:β->Tm m):(q:List (Tm n))->(l:List β)->aG (λa b=>aB n a m b) q (l.map g)=true->fe (λy b=>aB n y m (g b)=true) q l
 | [],[],_=>fe.nil
 | [],_::_,h=>by simp[aG]at h
 | _::_,[],h=>by simp[aG]at h
 | y::q,b::l,h=>by
  simp only[aV,aG,aK]at h;have ih:=mj g q l h.2;refine⟨by simp[ih.1],λi e v c d=>?_⟩;cases i with
  | zero=>
   simp at c d;subst c d;exact h.1
  | succ i=>exact ih.2 i e v (by simpa using c) (by simpa using d)
theorem kL{a s:ap}(b:a.toList≠s.toList):tH a s=false:=by simpa [tH]using b
theorem Pq(M N n:Nat)(a:Ac (n+1))(y:Tm N)(b:aB N y (n+2) (cE n a)=true):∃E,td M N y=some E:=by
 cases N with
 | zero=>simp[aB]at b
 | succ N=>
 have i:ni.toList=[115,101,110,100]:=kG [115,101,110,100];have j:jt.toList=[115,112,97,119,110]:=kG [115,112,97,119,110];have k:nh.toList=[108,105,110,107]:=kG [108,105,110,107];have l:mu.toList=[115,116,111,112]:=kG [115,116,111,112];unfold cE at b;split at b
 ·obtain⟨c,d⟩:=od b;obtain⟨s,t,f,r,h⟩:=dZ d;obtain⟨B,C,o,z,q⟩:=dZ h;have p:=nb q;subst o p;simp only[td,j0,c,f,lK];exact⟨_,rfl⟩
 split at b
 ·obtain⟨c,d⟩:=od b;obtain⟨s,t,f,r,h⟩:=dZ d;obtain⟨B,C,o,z,q⟩:=dZ h;obtain⟨D,F,p,A,v⟩:=dZ q;have g:=nb v;subst o p g;have w:b8 ⟨N,s⟩=2:=by rw[kQ r];rfl
  have x:b8 ⟨N,D⟩=5:=by rw[kQ A];rfl
  have e:tH jt ni=false:=kL (by rw[i,j];decide);simp only[td,j0,c,f,lK,e,Bool.false_and,eQ];simp[Aq,w,x]
 split at b
 ·obtain⟨c,d⟩:=od b;obtain⟨s,t,f,r,h⟩:=dZ d;have g:=nb h;subst g;have e:tH nh ni=false:=kL (by rw[i,k];decide);have m:tH nh jt=false:=kL (by rw[j,k];decide);simp only[td,j0,c,f,lK,e,m,Bool.false_and,eQ];simp
 ·obtain⟨c,d⟩:=od b;have g:=nb d;have e:tH mu ni=false:=kL (by rw[i,l];decide);have m:tH mu jt=false:=kL (by rw[j,l];decide);have u:tH mu nh=false:=kL (by rw[k,l];decide);simp only[td,j0,c,g,lK,e,m,u,Bool.false_and,eQ];simp
theorem Ps(M N n:Nat)(c:Cl (n+1))(y:Tm N)(g:aB N y (n+4) (dU n c)=true):∃e,Ap M N y=some e:=by
 cases N with
 | zero=>simp[aB]at g
 | succ N=>
 obtain⟨o,p⟩:=od g;obtain⟨B,G,i,D,q⟩:=dZ p;obtain⟨C,H,j,E,r⟩:=dZ q;obtain⟨a,I,k,d,s⟩:=dZ r;obtain⟨t,J,l,F,u⟩:=dZ s;have m:=nb u;subst j k l m;have v:b8 ⟨N,a⟩=4:=by rw[kQ d];rfl
 cases N with
 | zero=>simp[aB]at d
 | succ N=>
 obtain⟨h,z,_⟩:=uy (f:=td M N) (R:=λy b=>aB N y (n+2) (cE n b)=true) (Q:=λ_ _=>True) (λy b w=>by
  obtain⟨e,x⟩:=Pq M N n b y w
  exact⟨e,x,trivial⟩) a.2.2 c.2.2 (mj (cE n) _ _ (bN d).2)
 have A:cV (td M (N+1-1)) (Fy (N+1) a)=some h:=z;refine⟨((aZ (M+1) (N+1) B,aZ (M+1) (N+1) C,aZ (M+1) (N+1) t),(none,0),h),?_⟩;show te M (N+1) (ft (N+1) y) (bV (N+1) y)=_;rw[o,i];unfold te;rw[if_pos (by rw[lK];rfl)];show (if b8 ⟨N+1,a⟩=4 then (cV (td M (N+1-1)) (Fy (N+1) a)).map _ else none)=_;rw[if_pos v,A];rfl
theorem Pr(M N n:Nat)(b:Bh (n+1))(y:Tm N)(c:aB N y (n+5) (ee n b)=true):∃a,Ao M N y=some a/\a.2.2.length=b.2.2.length:=by
 cases N with
 | zero=>simp[aB]at c
 | succ N=>
 obtain⟨g,h⟩:=od c;obtain⟨d,q,e,p,i⟩:=dZ h;have j:b8 ⟨N,d⟩=2:=by rw[kQ p];rfl
 obtain⟨r,o,k⟩:=uy (f:=Ap M N) (R:=λy b=>aB N y (n+4) (dU n b)=true) (Q:=λ_ _=>True) (λy b l=>by
  obtain⟨a,m⟩:=Ps M N n b y l
  exact⟨a,m,trivial⟩) q b.2.2 (mj (dU n) _ _ i)
 refine⟨(yh N d,(none,0),r),?_,k.1⟩;simp only[Ao,uj,g,e,lK];simp[j,o]
theorem Ls(M N n:Nat)(q:N<=M+1)(l:List (Bh (n+1)))(e:kO (n+1) l=true)(x:Tm N)(r:aJ ⟨N,x⟩)(i:aB N x (n+6) (cg n l)=true):∃a,Cu M N x=some a/\kO (M+1) a=true/\a.length=l.length:=by
 cases N with
 | zero=>simp[aB]at i
 | succ N=>
 obtain⟨o,p⟩:=od i;obtain⟨h,u,c⟩:=uy (f:=Ao M N) (R:=λg b=>aB N g (n+5) (ee n b)=true) (Q:=λa b=>a.2.2.length=b.2.2.length) (λg b s=>Pr M N n b g s) (bV N x) l (mj (ee n) _ _ p);have m:Cu M (N+1) x=some h:=by
  simp only[Cu,o,lK];simpa using u
 refine⟨h,m,?_,c.1⟩;rw[(Cv M (N+1) q x r h m).2];simp only[kO,xi,aK,cr,cG]at e ⊢;refine⟨by rw[c.1];exact e.1.1,λa t=>?_⟩;obtain⟨d,j⟩:=di t;have k:d<l.length:=by have:=(aY.1 j).1;rw[<-c.1];exact this
 have:=c.2 d a l[d] j (aN k);rw[this];exact(e.2 l[d] (io k)).1.1.2
def BJ(M:Nat)(o:Option (List (Bh (M+1)))):Int:=match o with|some l=>if kO (M+1) l=true then 0 else 5|none=>5
def BI(M n:Nat)(x:Tm n):Int:=if bG n x=0 then BJ M (Cu M n x)else bG n x
def ux(M:Nat)(E:Int)(o:Option (List (Bh (M+1))))(w:ag)(e:Ending)(w':ag):Prop:=
 ∃(l:List (Bh (M+1)))(a:au)(c:Nat),e=.returned (.tuple #[ae a l.length c,ab E])/\Hid (am w w'/\(l.length<=c/\c<=maxLen)/\gG (M+1) w'.heap.size w' a l/\ub (kh (M+1) (λb=>w.heap.size<=b)) (λb=>w.heap.size<=b) a l/\(¬E=0->l=[])/\(E=0->∃d,o=some d/\fe (zr (M+1)) l d))
theorem sU{M:Nat}{E:Int}{o:Option (List (Bh (M+1)))}{w w':ag}(a:¬E=0)(c:am w w'):ux M E o w (.returned (.tuple #[ae none 0 0,ab E])) w':=
 ⟨[],none,0,rfl,c,⟨av _,aM _⟩,aj rfl,aj rfl,λ_=>rfl,λb=>(a b).elim⟩
theorem Hh(M:Nat)(k A:Int)(s:ap)(a:au)(l c:Nat)(w:ag)(g:Int)(o:Option (List (Bh (M+1))))(E:Int)(J:Hid (E=if g=0 then BJ M o else g))(Q:Hid (∀w1,am w w1->ao 53 #[.agg #[ab k,ab A,af s,ae a l c]] w1 λe w'=>e=.returned (ab g)/\am w1 w'))(H:Hid (g=0->∀w1,am w w1->ao 67 #[.agg #[ab k,ab A,af s,ae a l c]] w1 (uT M o w1))):ao 38 #[.agg #[ab k,ab A,af s,ae a l c]] w (ux M E o w):=by
 go_enter func38,ntmps38;go_wp2_with fail;refine(Q _ aX).mono ?_;rintro e w1 ⟨rfl,L⟩;have q:Hid (am w w1):=aX.trans (L.mono (by simp));have j:=aq (rD w _ _ _ _ _ L);clear L Q;by_cases z:g=0
 ·subst z;have S:=aq (H (by simp) w1 q);have X:ah w1 w.heap.size 0 (ab k):=ax j 0;have Y:ah w1 w.heap.size 1 (ab A):=ax j 1;have Z:ah w1 w.heap.size 2 (af s):=ax j 2;have aa:ah w1 w.heap.size 3 (ae a l c):=ax j 3;have an:w.heap.size<w1.heap.size:=(aI.1 j).1;have D:=aq (show E=BJ M o by simpa using J.out);clear H J;go_wp2_with fail;refine S.mono ?_;rintro e B ⟨p,u,y,ak,rfl,i⟩;obtain⟨t,K⟩:∃t,p.length=t:=⟨_,rfl⟩;rw[K];have G:=aq K;have r:Hid (am w B):=q.trans (i.1.mono q.size);clear K S X Y Z aa j;cases ak
  ·have h:Hid (E=5):=by
     show E=5;rw[D.out];have d:=i.2.1;cases o with
     | none=>rfl
     | some f=>cases d
   have W:Hid (ux M E o w (.returned (.tuple #[ae none 0 0,ab 5])) B):=by
    have d:=sU (M:=M) (E:=E) (o:=o) (by rw[h.out];omega) r;rw[h.out]at d;rw[h.out];exact d
   go_wp2_with fail;exact ay (v:=.tuple #[ae none 0 0,ab 5]) (by simp[results,results38,go_sem]) rfl W
  ·have F:Hid (∀m,am B m->ao 65 #[ae u t y] m λe w'=>e=.returned (.bool (kO (M+1) p))/\am m w'):=λm T=>
     qh M p t G u y B.heap.size m (gG.below T i.2.2.2.1) (by have:=i.2.2.1;have:=G.out;unfold maxLen at*;omega) T.size
   obtain⟨b,x⟩:∃b,kO (M+1) p=b:=⟨_,rfl⟩;rw[x]at F;have R:=aq x;clear x;have I:Hid (∃f,o=some f/\fe (zr (M+1)) p f):=by
    have d:=i.2.1;cases o with
    | none=>cases d
    | some f=>exact⟨f,rfl,i.2.2.2.2.2 f rfl⟩
   cases b
   ·have h:Hid (E=5):=by
      show E=5;obtain⟨f,O,N⟩:=I.out;rw[D.out,O];show (if kO (M+1) f=true then (0:Int)else 5)=5;rw[<-Lj N,R.out];rfl
    go_wp2_with (go_at_call 65;refine(F _ (aA _ _)).mono ?_;rintro e m ⟨rfl,n⟩;have C:=aq (r.trans (n.mono r.size));clear n);refine ay (v:=.tuple #[ae none 0 0,ab 5]) (by simp[results,results38,go_sem]) rfl ?_;have d:=sU (M:=M) (E:=E) (o:=o) (by rw[h.out];omega) C;rw[h.out]at d;rw[h.out];exact d
   ·have U:Hid (E=0):=by
      show E=0;obtain⟨f,O,N⟩:=I.out;rw[D.out,O];show (if kO (M+1) f=true then (0:Int)else 5)=0;rw[<-Lj N,R.out];rfl
    go_wp2_with (go_at_call 65;refine(F _ (aA _ _)).mono ?_;rintro e m ⟨rfl,n⟩;have P:=aq n;have C:=aq (r.trans (n.mono r.size));clear n);refine ay (v:=.tuple #[ae u t y,ab 0]) (by simp[results,results38,go_sem]) rfl ?_;obtain⟨ar,av,ad,ai,aj,aw⟩:=i;rw[U.out];exact⟨p,u,y,by rw[G.out],C,ad,(gG.below P ai).mono P.size,(cQ (ex _) 2 (pW (M+1)) u).1 _ _ _ (λb x=>aF q.size x) aj,λd=>(d rfl).elim,λ_=>I⟩
 ·have al:(g !=0)=true:=by simpa using z
  have V:Hid (E=g):=by
   show E=g;rw[J.out,if_neg z]
  clear H j;go_wp2_with fail;refine ay (v:=.tuple #[ae none 0 0,ab g]) (by simp[results,results38,go_sem]) rfl ?_;rw[V.out];exact sU z q
theorem BK(M n:Nat)(g:n<=M+1)(x:Tm n)(B:Nat)(w:ag)(c:In B w n x)(f:(aC n x).length<=2097152)(b:B<=w.heap.size):ao 38 #[dB n x] w (ux M (BI M n x) (Cu M n x) w):=by
 cases n with
 | zero=>exact c.elim
 | succ n=>
 exact Hh M x.1.1 x.1.2.1 x.1.2.2 x.2.1.1 x.2.2.length x.2.1.2 w (bG (n+1) x) _ _ rfl (λd a=>ed (n+1) x B d (c.below (a.mono b)) (aF b a.size) f) (λe d a=>AA M (n+1) g x B d (c.below (a.mono b)) (aU.2 (bJ.1 e).1) (aF b a.size))
theorem qy{n:Nat}{x:Tm n}(a:bG n x=0):aJ ⟨n,x⟩:=aU.2 (bJ.1 a).1
theorem fE{n:Nat}{p:List (Bh (n+1))}(b:mF n p=0):kO (n+1) p=true/\bG (n+6) (cg n p)=0/\LZ n p=cg n p:=by
 have a:=b;unfold mF at a;split at a
 ·rename_i c;exact⟨c,a,by unfold LZ;rw[if_pos b]⟩
 ·omega
theorem Py{n:Nat}{p:List (Bh (n+1))}(a:kO (n+1) p=true)(k:bG (n+6) (cg n p)=0):mF n p=0:=by
 unfold mF;rw[if_pos a];exact k
theorem yB{M n:Nat}(i:n<=M+1){x:Tm n}(e:bG n x=0){a l:List (Bh (M+1))}(j:Cu M n x=some a)(f:fe (zr (M+1)) l a)(h:kO (M+1) a=true):kO (M+1) l=true/\mF M l=0/\aB (M+6) (LZ M l) n x=true/\(aC (M+6) (cg M l)).length=(aC n x).length:=by
 have g:=Cv M n i x (qy e) a j;have c:kO (M+1) l=true:=(Lj f).trans h;have b:aB (M+6) (cg M l) n x=true:=bP _ _ _ _ _ _ (Ll f) g.1;have d:mF M l=0:=Py c ((bZ b).trans e);exact⟨c,d,by rw[(fE d).2.2];exact b,kR _ _ _ _ b⟩
theorem Jc{n:Nat}{p:List (Bh (n+1))}(i:mF n p=0){y:Tm (n+6)}(a:aB (n+6) y (n+6) (LZ n p)=true):bG (n+6) y=0/\BI (n+5) (n+6) y=0/\∀e l,Cu (n+5) (n+6) y=some e->fe (zr (n+6)) l e->kO (n+6) l=true/\mF (n+5) l=0/\aB (n+11) (LZ (n+5) l) (n+6) (LZ n p)=true/\l.length=p.length/\(aC (n+11) (cg (n+5) l)).length=(aC (n+6) (cg n p)).length:=by
 obtain⟨j,k,f⟩:=fE i;rw[f]at a;have b:bG (n+6) y=0:=(bZ a).trans k;obtain⟨e,d,h,m⟩:=Ls (n+5) (n+6) n (av _) p j y (qy b) a;refine⟨b,?_,λt l c g=>?_⟩
 ·unfold BI;rw[if_pos b,d];unfold BJ;simp only[h,de]
 ·rw[d]at c;injection c with c;subst c;obtain⟨o,q,r,s⟩:=yB (av _) b d g h;exact⟨o,q,by rw[f];exact bP _ _ _ _ _ _ r a,g.1.trans m,by rw[s];exact kR _ _ _ _ a⟩
def mI(lo:Nat)(room:Int)(K:Nat)(e:aO)(B:Nat)(w:ag):List (Int×ap×Tc)->List Nat->Nat->Prop
 | [],[],c=>c<=B
 | x::l,b::bs,c=>∃a d,(c<=a/\a<=d)/\P1 lo b x.2.1 room x.2.2 [] K (λq=>a<=q/\q<d) w/\(∀q,a<=q->q<d->¬e q)/\mI lo room K e B w l bs d
 | _,_,_=>False
section
variable {lo K:Nat} {room:Int} {X:aO} {B:Nat} {w:ag}
theorem mI.le:{l:List (Int×ap×Tc)}->{a:List Nat}->{c:Nat}->mI lo room K X B w l a c->c<=B
 | [],[],_,h=>h
 | [],_::_,_,h=>h.elim
 | _::_,[],_,h=>h.elim
 | _::_,_::_,_,⟨c1,c2,h1,_,_,h4⟩=>by have:=h4.le;omega
theorem mI.kept2{w':ag}{S f:aO}{e c0:Nat}(a:bB S w w')(j:∀q,c0<=q->q<B->S q->X q)(k:∀q,q<B->f q->X q)(i:B<=e):{l:List (Int×ap×Tc)}->{g:List Nat}->{c:Nat}->c0<=c->mI lo room K X B w l g c->mI lo room K f e w' l g c
 | [],[],_,_,h=>aF h i
 | [],_::_,_,_,h=>h.elim
 | _::_,[],_,_,h=>h.elim
 | _::_,_::_,_,hc,⟨c1,c2,h1,h2,h3,h4⟩=>by
  have o:=h4.le;exact⟨c1,c2,h1,h2.kept (S:=S) ⟨a.os,a.tape,a.output,a.size,a.block⟩ λb q d=>h3 b q.1 q.2 (j b (by omega) (by omega) d),λq m n d=>h3 q m n (k q (by omega) d),h4.kept2 a j k i (by omega)⟩
theorem mI.kept{w':ag}{S b:aO}{a:Nat}(i:bB S w w')(g:∀q,q<B->S q->X q)(h:∀q,q<B->b q->X q)(f:B<=a){l:List (Int×ap×Tc)}{d:List Nat}{c:Nat}(e:mI lo room K X B w l d c):mI lo room K b a w' l d c:=e.kept2 (c0:=0) i (λq _=>g q) h f (aM _)
theorem mI.snoc{a B2 e b:Nat}{x:Int×ap×Tc}(g:B<=a)(d:a<=B2/\B2<=e)(i:P1 lo b x.2.1 room x.2.2 [] K (λq=>a<=q/\q<B2) w)(j:∀q,a<=q->q<B2->¬X q):{l:List (Int×ap×Tc)}->{f:List Nat}->{c:Nat}->mI lo room K X B w l f c->mI lo room K X e w (l++ [x]) (f++ [b]) c
 | [],[],_,h=>⟨a,B2,⟨aF h g,d.1⟩,i,j,d.2⟩
 | [],_::_,_,h=>h.elim
 | _::_,[],_,h=>h.elim
 | _::_,_::_,_,⟨c1,c2,h1,h2,h3,h4⟩=>⟨c1,c2,h1,h2,h3,h4.snoc g d i j⟩
end
section
variable {p:lB} {s:Sy} {d:gz} {w:ag}
theorem Ny{n:Nat}{x:Tm n}(room:Int)(nm:ap)(b:bG n x=0):gw 13 (cn n x) room nm=gw n x room nm:=by
 have a:=eD b;unfold gw jZ;rw[bZ a,cO _ _ _ _ a,mm _ _ _ _ a]
theorem bz.made(A:bz p s d w){N af:Nat}{pa:au}{pl pc:Nat}{t:List (Int×ap×Tm (N+1))}(aE:w.ownsRow af 174 6 (ae pa pl pc) pl (t.flatMap λg=>Pv g.1 g.2.1 g.2.2))(aA:t.length=pl)(Z:pl<=1000)(aF:∀g∈t,bG _ g.2.2=0/\In w.heap.size w _ g.2.2):ao 47 #[aH p.b,ae pa pl pc] w λe w'=>∃v b,e=.returned (.tuple #[v,.bool b])/\Hid (am w w'/\b=s.made p.n p.prog p.room (t.map λg=>(g.1,g.2.1,cn _ g.2.2))/\(b=true->∃m a c,v=ae a pl c/\m.length=pl/\w'.ownsRow w.heap.size 65 1 v pl (m.map AU)/\mI p.lo p.room (d.k+201) (λq=>v.ownBlock=some q) w'.heap.size w' (t.map λg=>(g.1,g.2.1,cn _ g.2.2)) m w.heap.size)):=by
 have aC:kO (p.n+1) p.prog=true:=(fE A.pg.2.2.2.1).1;obtain⟨aT,P,ag,_,ar⟩:=sf aE (by decide) λg=>rfl;injection ag with ai el aU;subst ai;have G:∀f,f<pl->t[f]?=some (t.getD f (0,⟨#[]⟩,((0,0,⟨#[]⟩),(none,0),[]))):=λf i=>by
  rw[nt,aN (by omega)];rfl
 generalize U:(λf=>t.getD f (0,⟨#[]⟩,((0,0,⟨#[]⟩),(none,0),[])))=h;have G:∀f,f<pl->t[f]?=some (h f):=λf i=>by rw[G f i,<-U]
 clear U;obtain⟨o,K⟩:∃o,o=t.map λg=>(g.1,g.2.1,cn _ g.2.2):=⟨_,rfl⟩;rw[<-K];have V:o.length=pl:=by rw[K,dN,aA]
 have L:∀f,f<pl->o[f]?=some ((h f).1,(h f).2.1,cn _ (h f).2.2):=λf i=>by rw[K,dh,G f i];rfl
 have X:∀f,f<pl->bG _ (h f).2.2=0/\In w.heap.size w _ (h f).2.2:=λf i=>aF _ (aL (G f i));have Y:∀f,f<pl->gw 13 (cn _ (h f).2.2) p.room (h f).2.1=gw _ (h f).2.2 p.room (h f).2.1:=λf i=>Ny _ _ (X f i).1;have aG:∀f,f<pl->o.take (f+1)=o.take f++ [((h f).1,(h f).2.1,cn _ (h f).2.2)]:=λf i=>by
  rw[dA,L f i];rfl
 refine Ia p.b pa pl pc (s.may pl) p.room w (λf=>(h f).1) (λf=>(h f).2.2.1.1) (λf=>(h f).2.2.1.2.1) (λf=>(h f).2.1) (λf=>(h f).2.2.1.2.2) (λf=>(h f).2.2.2.1.1) (λf=>(h f).2.2.2.2.length) (λf=>(h f).2.2.2.1.2) (λf=>lL p.n p.prog (h f).2.1) (λf=>gw _ (h f).2.2 p.room (h f).2.1) (λf m v j=>mI p.lo p.room (d.k+201) (λq=>v.ownBlock=some q) j.heap.size j (o.take f) m w.heap.size/\∀q,v.ownBlock=some q->q<j.heap.size)
  (λf H m v j=>∃y,(w.heap.size<=y/\y<=j.heap.size)/\(mI p.lo p.room (d.k+201) (λq=>v.ownBlock=some q) y j (o.take f) m w.heap.size)/\(∀q,v.ownBlock=some q->q<y)/\P1 p.lo H (h f).2.1 p.room (cn _ (h f).2.2) [] (d.k+201) (λq=>y<=q/\q<j.heap.size) j) (λv b w'=>am w w'/\b=s.made p.n p.prog p.room o/\(b=true->∃m a c,v=ae a pl c/\m.length=pl/\w'.ownsRow w.heap.size 65 1 v pl (m.map AU)/\mI p.lo p.room (d.k+201) (λq=>v.ownBlock=some q) w'.heap.size w' o m w.heap.size)) Z A.lo.2 A.cells.2.1 (λf i=>?_) (A.mayHave pl Z) (λf j i l=>(A.later l).knows _) (λf m v j i r l F=>?_) ?_ (λf m v j I F l=>?_) (λf H m a c E P j ad I C aq l B aw ax=>?_) (λj l u=>?_) λj m a c l aj R al an T=>?_
 ·obtain⟨E,J,Q,z⟩:=ar f _ (G f i);exact⟨E,J,Q,z 0 _ rfl,z 1 _ rfl,z 2 _ rfl,z 3 _ rfl,z 4 _ rfl,z 5 _ rfl⟩
 ·have aZ:=Ee aC r;obtain⟨aJ,aM⟩:=X f i;refine(P1.new _ (h f).2.2 p.room (h f).2.1 j (by omega) ((aM.below l).mono l.size) (fw aJ)).mono ?_;rintro e w' ⟨q,rfl,ab⟩;obtain⟨M,a0,aO⟩:=ab;refine⟨q,rfl,M,λe=>?_⟩;obtain⟨H,J,Q,z,ah⟩:=aO e;have:=A.lo.1;have:=l.size;refine⟨H,J,j.heap.size,⟨l.size,M.size⟩,F.1.kept (aR M λ_=>False) (λ_ _ g=>g.elim) (λ_ _ g=>g) (av _),F.2,ah.mono (λb g=>g) (by omega) λb g=>⟨by omega,g.2⟩⟩
 ·exact⟨av _,(λq g=>by cases g)⟩
 ·exact⟨F.1.kept (aR l λ_=>False) (λ_ _ g=>g.elim) (λ_ _ g=>g) l.size,λq g=>aW (F.2 q g) l.size⟩
 ·obtain⟨y,⟨a1,a2⟩,aP,aa,aQ⟩:=aq;have ay:bB (λq=>(Value.slice a f c).ownBlock=some q) ad I:=⟨B.os,B.tape,B.output,B.size,λk r aB=>B.block k r λe=>aB e.symm⟩;have r:bB (λq=>(Value.slice a f c).ownBlock=some q) j I:=(aR l _).trans ay λ_ _ e=>e;have aV:=l.size;have aX:=B.size;have W:∀q,q<j.heap.size->(Value.slice (some ⟨E,0,none⟩) (f+1) P).ownBlock=some q->(Value.slice a f c).ownBlock=some q:=λq aD g=>by
   obtain rfl:E=q:=az g;rcases aw with e|e
   ·exact e
   ·omega
  refine⟨?_,λq g=>?_⟩
  ·rw[aG f C];refine mI.snoc (av y) (B2:=j.heap.size) (by omega) ?_ ?_ (aP.kept r (λq _ g=>g) (λq aD g=>W q (by omega) g) (av _))
   ·exact aQ.kept (S:=λq=>(Value.slice a f c).ownBlock=some q) ⟨r.os,r.tape,r.output,r.size,r.block⟩ λb g D=>by have:=aa b D;omega
   ·exact λq O D aS=>by have:=aa q (W q D aS);omega
  ·obtain rfl:E=q:=az g;exact ax
 ·refine⟨l,?_,(λg=>by cases g)⟩;unfold Sy.made;rw[V];rcases u with u|⟨f,i,u⟩
  ·rw[u];rfl
  ·refine Eq.symm (pF.2 (ak ?_));rw[List.all_eq_false];refine⟨_,aL (L f i),?_⟩;simp only[aK,co,not_and];intro O D;rw[Y f i]at D;rcases u with u|u
   ·rw[u]at O;cases O
   ·exact u D
 ·refine⟨l,?_,λ_=>⟨m,a,c,rfl,al,an,?_⟩⟩
  ·unfold Sy.made;rw[V,aj,eQ,eq_comm,cG];intro x aI;obtain⟨f,i⟩:=List.mem_iff_getElem?.1 aI;have C:f<pl:=by have:=(aY.1 i).1;omega
   rw[L f C]at i;obtain rfl:=az i;simp only[aK,co];exact⟨(R f C).1,(Y f C).trans (R f C).2⟩
  ·rw[bA (by omega)]at T;exact T.1
end
theorem AB(x:Nat)(a O P:Int)(Q:ap)(ma:au)(T S:Nat)(f:Int)(sa:au)(sl sc:Nat)(pa:au)(pl pc:Nat)(ka:au)(kl kc:Nat)(av:au)(vl aE:Nat)(aa:Nat->Nat)(C D E:Nat->Int)(F:Nat->ap)(xa:Nat->au)(G xc:Nat->Nat)(ar:Nat->Int)(w:ag)(k o p:Nat->Nat->ag->Prop)(R:ag->Prop)(aJ:vl<=1000)(aI:sl<=1000)(aG:kl<=1000)(X:Hid (∀q W,am w W->w.heap.size<=q->W.heap[q]?=some (.cells #[ab O,ab P,af Q,ae ma T S,ab f,ae sa sl sc,ae pa pl pc,ae ka kl kc] 117)->k q 0 W))(H:Hid (∀q W,k q vl W->o q 0 W))(y:Hid (∀q W,o q sl W->p q 0 W))(i:Hid (∀q j W,(k q j W\/o q j W\/p q j W)->W.heap[q]?=some (.cells #[ab O,ab P,af Q,ae ma T S,ab f,ae sa sl sc,ae pa pl pc,ae ka kl kc] 117)))(I:Hid (∀q j W,j<vl->k q j W->(∃g,av=some ⟨g,0,none⟩/\ah W g j (.pointer (some ⟨aa j,0,none⟩)))/\Hid (ao 43 #[aH x,ab a,.pointer (some ⟨aa j,0,none⟩)] W λe w'=>e=.returned (.tuple #[])/\Hid (k q (j+1) w'))))(z:Hid (∀q j W,j<sl->o q j W->(∃g,sa=some ⟨g,0,none⟩/\ah W g (j*5) (ab (C j))/\ah W g (j*5+1) (ab (D j))/\ah W g (j*5+2) (ab (E j))/\ah W g (j*5+3) (af (F j))/\ah W g (j*5+4) (ae (xa j) (G j) (xc j)))/\Hid (∀Z,am W Z->ao 82 #[aH x,ab a,ab (C j),.agg #[ab (D j),ab (E j),af (F j),ae (xa j) (G j) (xc j)]] Z λe w'=>e=.returned (.tuple #[])/\Hid (o q (j+1) w'))))(t:Hid (∀q j W,j<kl->p q j W->(∃g,ka=some ⟨g,0,none⟩/\ah W g j (ab (ar j)))/\Hid (ao 83 #[aH x,ab a,ab (ar j)] W λe w'=>e=.returned (.tuple #[])/\Hid (p q (j+1) w'))))(s:Hid (∀q W,p q kl W->(f=1->ao 48 #[aH x,ab a,ab 1] W λe w'=>e=.returned (.tuple #[])/\Hid (R w'))/\(f≠1->R W))):ao 49 #[aH x,ab a,.agg #[ab O,ab P,af Q,ae ma T S,ab f,ae sa sl sc,ae pa pl pc,ae ka kl kc],ae av vl aE] w λe w'=>e=.returned (.tuple #[])/\Hid (R w'):=by
 go_enter func49,ntmps49;go_upto_region 1 with fail;generalize m:w.alloc _=aw;obtain⟨q,B⟩:∃q,q=w.heap.size:=⟨_,rfl⟩;rw[<-B];have V:Hid (k q 0 aw):=X q aw (by rw[<-m];exact aS _ _) (dO B.symm) (by rw[<-m,B];exact aD _ _);clear m B X;go_wp2_with fail;go_loopw [9,16] (λ_ c wr=>∃(j:Nat),j<=vl/\c=ab j/\Hid (k q j wr)) (λ_ c _=>vl-(intOf c).toNat)
 case atStart=>exact⟨0,aM _,rfl,V⟩
 case round=>
 obtain⟨j,A,rfl,b⟩:=hrel;by_cases l:j<vl
 ·obtain⟨⟨g,rfl,M⟩,n⟩:=I.out q j wr l b;have al:(0:Int)<=(j:Int):=by omega
  have an:(j:Int)<(vl:Int):=by omega
  clear H y i I z t s b;go_wp2_with fail;refine n.mono ?_;rintro e d ⟨rfl,h⟩;go_wp2_with fail;go_roundw
  case rel=>exact⟨j+1,by omega,by go_num,h⟩
  case measure=>simp[intOf];omega
 obtain rfl:j=vl:=by omega
 have K:=aq (H _ _ b);clear b I H V A l;have aB:ah wr q 5 (ae sa sl sc):=ai (i q 0 wr (ak (aj K))) 5;go_wp2_with fail;clear aB;go_loopw [11,28] (λ_ c U=>∃(j:Nat),j<=sl/\c=ab j/\Hid (o q j U)) (λ_ c _=>sl-(intOf c).toNat)
 case atStart=>exact⟨0,aM _,rfl,K⟩
 case round=>
 clear K;obtain⟨j,A,rfl,b⟩:=hrel;by_cases l:j<sl
 ·obtain⟨⟨g,rfl,M,ay,az,aA,ad⟩,n⟩:=z.out q j _ l b;have al:(0:Int)<=(j:Int):=by omega
  have an:(j:Int)<(sl:Int):=by omega
  clear y i z t s b;go_upto_region 9 with fail;generalize m:World.alloc _ _=d;have r:d.heap[wr.heap.size]?=some (.cells #[ab (C j),ab (D j),ab (E j),af (F j),ae (xa j) (G j) (xc j)] 177):=by
   rw[<-m];exact aD _ _
  have ax:=aq (n d (by rw[<-m];exact aS _ _));generalize wr.heap.size=u at*;have d0:ah d u 0 (ab (C j)):=ai r 0;have d1:ah d u 1 (ab (D j)):=ai r 1;have d2:ah d u 2 (ab (E j)):=ai r 2;have d3:ah d u 3 (af (F j)):=ai r 3;have d4:ah d u 4 (ae (xa j) (G j) (xc j)):=ai r 4;clear m r n M ay az aA ad;go_wp2_with fail;refine ax.mono ?_;rintro e aK ⟨rfl,h⟩;go_wp2_with fail;go_roundw
  case rel=>exact⟨j+1,by omega,by go_num,h⟩
  case measure=>simp[intOf];omega
 obtain rfl:j=sl:=by omega
 have L:=aq (y _ _ b);clear b z y A l;have aC:ah wr q 7 (ae ka kl kc):=ai (i q 0 wr (ak (ak L))) 7;go_wp2_with fail;clear aC;go_loopw [13,43] (λ_ c U=>∃(j:Nat),j<=kl/\c=ab j/\Hid (p q j U)) (λ_ c _=>kl-(intOf c).toNat)
 case atStart=>exact⟨0,aM _,rfl,L⟩
 case round=>
 clear L;obtain⟨j,A,rfl,b⟩:=hrel;by_cases l:j<kl
 ·obtain⟨⟨g,rfl,M⟩,n⟩:=t.out q j _ l b;have al:(0:Int)<=(j:Int):=by omega
  have an:(j:Int)<(kl:Int):=by omega
  clear i t s b;go_wp2_with fail;refine n.mono ?_;rintro e d ⟨rfl,h⟩;go_wp2_with fail;go_roundw
  case rel=>exact⟨j+1,by omega,by go_num,h⟩
  case measure=>simp[intOf];omega
 obtain rfl:j=kl:=by omega
 have ad:ah wr q 4 (ab f):=ai (i q _ wr (ak (ak b))) 4;have Y:=aq (s q _ b);clear b t i s;by_cases N:f=1
 ·subst N;have J:=aq (Y.1 rfl);go_wp2_with fail;refine J.mono ?_;rintro e d ⟨rfl,h⟩;go_wp2_with fail;exact dG (v:=.tuple #[]) (by simp[results]) rfl ⟨rfl,h⟩
 ·have J:=aq (Y.2 N);have aF:(f==1)=false:=by simpa using N
  go_wp2_with fail;exact dG (v:=.tuple #[]) (by simp[results]) rfl ⟨rfl,J⟩
def qw(M:aO)(a:Nat)(d b:gz)(w w':ag):Prop:=bB (λq=>d.ow q<0) w w'/\(∀q,q<w.heap.size->¬M q->b.ow q=d.ow q)/\(∀q,q<w.heap.size->M q->0<=b.ow q)/\b.k=d.k/\b.es.length<=d.es.length+a/\b.wn<=d.wn+a/\b.bn<=d.bn+a
section
variable {p:lB} {s:Sy} {d d1 d2:gz} {w w1 w2:ag} {M:aO} {a b:Nat}
theorem qw.up(m:qw M a d d1 w w1)(k:eu b d1 d2 w1 w2):qw M (a+b) d d2 w w2:=by
 obtain⟨h,i,j,n,q,r,s⟩:=m;obtain⟨o,l,p,u,v,x⟩:=k;have t:=h.size;refine⟨h.trans o λc e g=>?_,λc e f=>(l c (by omega)).trans (i c e f),λc e f=>by rw[l c (by omega)];exact j c e f,p.trans n,by omega,by omega,by omega⟩;by_cases f:M c
 ·have:=j c e f;omega
 ·rw[i c e f]at g;exact g
theorem qw.ad{M':aO}(m:qw M a d d1 w w1)(k:OU M' b d1 d2 w1 w2)(o:∀q,M' q->M q):qw M (a+b) d d2 w w2:=by
 obtain⟨h,i,j,n,t,u,v⟩:=m;obtain⟨p,l,r,s,y,z,A⟩:=k;have x:=h.size;refine⟨h.trans p λq e g=>?_,λq e c=>(l q (by omega) λf=>c (o q f)).trans (i q e c),λq e c=>?_,s.trans n,by omega,by omega,by omega⟩
 ·by_cases c:M q
  ·have:=j q e c;omega
  ·rw[i q e c]at g;exact g
 ·by_cases f:M' q
  ·have:=r q f;omega
  ·rw[l q (by omega) f];exact j q e c
theorem qw.mono(c:qw M a d d1 w w1)(l:a<=b):qw M b d d1 w w1:=by
 obtain⟨e,f,g,h,i,j,k⟩:=c;exact⟨e,f,g,h,by omega,by omega,by omega⟩
theorem Gs.ug{m:Nat}{x:Tm m}(e:Gs d w x)(k:qw M a d d1 w w1):Gs d1 w1 x:=by
 have g:=eE k.1 (D:=λb=>0<=d.ow b/\b<w.heap.size) (λb c f=>by omega) ⟨e.1,In.offB e.2 e.1⟩;refine⟨g.1,g.2.mono λb c=>?_⟩;by_cases f:M b
 ·exact k.2.2.1 b c.2 f
 ·rw[k.2.1 b c.2 f];exact c.1
theorem BD(a:Int):(l:List (Int×ap×Tc))->(s:Sy)->(l.foldl (λs x=>s.add a x.2.1 x.2.2) s).ps.length=s.ps.length+l.length/\(l.foldl (λs x=>s.add a x.2.1 x.2.2) s).last=s.last+l.length
 | [],s=>by simp
 | x::l,s=>by
  have b:=BD a l (s.add a x.2.1 x.2.2);rw[gP,b.1,b.2];simp only[Sy.add,Sy.tell,bt,bu,iP];omega
theorem bz.follow(aJ:bz p s d w){a:Int}(aq:dI a)(i:Tk)(bb:AW 8 i.sends i.spawns i.links)(y0 y1:Int)(y2:ap)(ya:au)(yl yc:Nat){N aE a2 c B:Nat}{sa:au}{sl sc:Nat}{pa:au}{pl pc:Nat}{ka:au}{kl kc:Nat}{L:au}{vl R:Nat}{K:List (Int×Tm (N+1))}{J:List Nat}{aD:aO}(bk:w.ownsRow aE 177 5 (ae sa sl sc) sl (K.flatMap λg=>Ou g.1 g.2))(bd:w.ownsRow aE 3 1 (ae ka kl kc) kl (i.links.map λX=>ab X))(bm:w.ownsRow a2 65 1 (ae L vl R) vl (J.map AU))(be:K.length=sl/\i.links.length=kl/\J.length=vl/\i.spawns.length=vl)(ax:K.map (λg=>(g.1,cn _ g.2))=i.sends)(bl:∀g∈K,bG _ g.2=0/\Gs d w g.2)(bg:∀q,((Value.slice sa sl sc).ownBlock=some q\/(Value.slice ka kl kc).ownBlock=some q\/(Value.slice L vl R).ownBlock=some q)->0<=d.ow q)(a8:mI p.lo p.room (d.k+201) aD B w i.spawns J c)(bx:B<=w.heap.size)(how:∀q,c<=q->q<B->d.ow q=0)(bf:s.may vl=true)(bE:d.k<=47000)(bC:d.es.length<=97000)(bK:d.wn<=900000)(bD:d.bn<=900000):ao 49 #[aH p.b,ab a,PN y0 y1 y2 ya yl yc i.fate sa sl sc pa pl pc ka kl kc,ae L vl R] w λe w'=>e=.returned (.tuple #[])/\Hid (∃O,bz p (s.follow a i) O w'/\qw (λq=>c<=q/\q<B) 200 d O w w'):=by
 obtain⟨bo,bL,bM,bN⟩:=be;obtain⟨⟨aG,bu,bv⟩,a4,a5⟩:=bb;have bI:=KY bf;have bJ:sl<=8:=by rw[<-bo];rw[<-ax,dN]at aG;exact aG
 have T:∀{D:Type}(l:List D)(g:D)(f:Nat),f<l.length->l[f]?=some (l.getD f g):=λl g f j=>by
  rw[nt,aN j];rfl
 obtain⟨n,ai⟩:∃n:Nat->Int×Tm (N+1),∀f,f<sl->K[f]?=some (n f):=⟨_,λf j=>T K (0,((0,0,⟨#[]⟩),(none,0),[])) f (by omega)⟩;obtain⟨aC,al⟩:∃n:Nat->Int,∀f,f<kl->i.links[f]?=some (n f):=⟨_,λf j=>T i.links 0 f (by omega)⟩;obtain⟨aA,aK⟩:∃n:Nat->Nat,∀f,f<vl->J[f]?=some (n f):=⟨_,λf j=>T J 0 f (by omega)⟩;obtain⟨br,aM⟩:∃n:Nat->Int×ap×Tc,∀f,f<vl->i.spawns[f]?=some (n f):=⟨_,λf j=>T i.spawns (0,⟨#[]⟩,sE) f (by omega)⟩;have aw:∀q,((Value.slice sa sl sc).ownBlock=some q\/(Value.slice ka kl kc).ownBlock=some q\/(Value.slice L vl R).ownBlock=some q)->¬d.ow q<0:=λq g=>by have:=bg q g;omega
 have a9:∀h,bB (λq=>d.ow q<0) w h->∀f,f<sl->∃o,sa=some ⟨o,0,none⟩/\∀(t:Nat)(X:ar),(Ou (n f).1 (n f).2)[t]?=some X->ah h o (f*5+t) X:=λh P f j=>by
  obtain⟨_,_,v,_,C⟩:=sf (bw bk P λq g=>aw q (aj g)) (by decide) λg=>rfl;injection v with v;subst v;obtain⟨o,z,_,A⟩:=C f _ (ai f j);exact⟨o,z,A⟩
 have a7:∀h,bB (λq=>d.ow q<0) w h->∀f,f<kl->∃o,ka=some ⟨o,0,none⟩/\ah h o f (ab (aC f)):=λh P f j=>by
  have Q:=bw bd P λq g=>aw q (ak (aj g));rw[List.map_eq_flatMap]at Q;obtain⟨_,_,v,_,C⟩:=sf Q (by decide) λg=>rfl;injection v with v;subst v;obtain⟨o,z,_,A⟩:=C f _ (al f j);have:=A 0 _ rfl;simp only[Nat.mul_one,iT]at this;exact⟨o,z,this⟩
 have ba:∀h,bB (λq=>d.ow q<0) w h->∀f,f<vl->∃o,L=some ⟨o,0,none⟩/\ah h o f (.pointer (some ⟨aA f,0,none⟩)):=λh P f j=>by
  have Q:=bw bm P λq g=>aw q (ak (ak g));rw[List.map_eq_flatMap]at Q;obtain⟨_,_,v,_,C⟩:=sf Q (by decide) λg=>rfl;injection v with v;subst v;obtain⟨o,z,_,A⟩:=C f _ (aK f j);have:=A 0 _ rfl;simp only[Nat.mul_one,iT]at this;exact⟨o,z,this⟩
 have aQ:∀{D:Type}{l:List D}{f:Nat}{g:D},l[f]?=some g->l.drop f=g::l.drop (f+1):=λ{D l f g} e=>by
  obtain⟨a6,rfl⟩:=aY.1 e;exact eS a6
 have ay:∀{D:Type}{l:List D}{f:Nat}{g:D},l[f]?=some g->l.take (f+1)=l.take f++ [g]:=λ{D l f g} e=>by
  rw[dA,e];rfl
 obtain⟨U,aU⟩:∃U,U=i.spawns.foldl (λs x=>s.add a x.2.1 x.2.2) s:=⟨_,rfl⟩;obtain⟨V,aV⟩:∃V,V=i.sends.foldl (λs x=>s.send a x.1 x.2) U:=⟨_,rfl⟩;obtain⟨W,aW⟩:∃W,W=i.links.foldl (λs x=>s.link a x) V:=⟨_,rfl⟩;have bj:s.follow a i=if i.fate=1 then W.fin a 1 else W:=by rw[aW,aV,aU];rfl
 let aF:Obj:=.cells #[ab y0,ab y1,af y2,ae ya yl yc,ab i.fate,ae sa sl sc,ae pa pl pc,ae ka kl kc] 117;let Z:Nat->Prop:=λq=>c<=q/\q<B;let aB:Sy->Nat->Nat->ag->Prop:=λbp k q h=>∃d1,bz p bp d1 h/\qw Z k d d1 w h/\(w.heap.size<=q/\q<h.heap.size/\h.heap[q]?=some aF/\d1.ow q=0)
 refine AB p.b a y0 y1 y2 ya yl yc i.fate sa sl sc pa pl pc ka kl kc L vl R aA (λf=>(n f).1) (λf=>(n f).2.1.1) (λf=>(n f).2.1.2.1) (λf=>(n f).2.1.2.2) (λf=>(n f).2.2.1.1) (λf=>(n f).2.2.2.length) (λf=>(n f).2.2.1.2) aC w
  (λq f h=>∃d1,bz p ((i.spawns.take f).foldl (λs x=>s.add a x.2.1 x.2.2) s) d1 h/\qw Z f d d1 w h/\(w.heap.size<=q/\q<h.heap.size/\h.heap[q]?=some aF/\d1.ow q=0)/\∃S,c<=S/\mI p.lo p.room (d.k+201) aD B h (i.spawns.drop f) (J.drop f) S/\∀q,S<=q->q<B->d1.ow q=0)
  (λq f h=>aB ((i.sends.take f).foldl (λs x=>s.send a x.1 x.2) U) (vl+2*f) q h) (λq f h=>aB ((i.links.take f).foldl (λs x=>s.link a x) V) (vl+2*sl+f) q h) (λw'=>∃O,bz p (s.follow a i) O w'/\qw Z 200 d O w w') (by omega) (by omega) (by omega) (λq h am aS aP=>?_) (λq h y=>?_) (λq h y=>?_) (λq f h y=>?_) (λq f h j y=>?_) (λq f h j y=>?_) (λq f h j y=>?_) λq h y=>?_
 ·have bi:=(aI.1 aP).1;refine⟨d,aJ.later am,⟨aR am _,λ_ _ _=>rfl,λq _ g=>by rw[how q g.1 g.2];exact jy 0,rfl,av _,av _,av _⟩,⟨aS,bi,aP,?_⟩,c,av _,a8.kept (aR am λ_=>False) (λ_ _ g=>g.elim) (λ_ _ g=>g) (av _),how⟩;by_cases g:d.ow q=0
  ·exact g
  ·have:=(aJ.low q g).2;omega
 ·obtain⟨d1,r,m,E,_⟩:=y;rw[bA (by omega),<-aU]at r;exact⟨d1,r,m,E⟩
 ·obtain⟨d1,r,m,E⟩:=y;rw[bA (by rw[<-ax,dN];omega),<-aV]at r;exact⟨d1,r,m,E⟩
 ·rcases y with⟨d1,_,_,E,_⟩|⟨d1,_,_,E⟩|⟨d1,_,_,E⟩
  ·exact E.2.2.1
  ·exact E.2.2.1
  ·exact E.2.2.1
 ·obtain⟨d1,r,m,⟨z,F,A,G⟩,S,bO,aZ,az⟩:=y;refine⟨ba h m.1 f j,?_⟩;rw[aQ (aM f j),aQ (aK f j)]at aZ;obtain⟨a3,aa,bP,a0,_,a1⟩:=aZ;have bc:=BD a (i.spawns.take f) s;rw[dF]at bc;have bH:=a1.le;have bF:=m.2.2.2.1;refine(r.add a (M:=λq=>a3<=q/\q<aa) (a0.mono (λ_ g=>g) (by omega) (P1.lie2 a0)) (λq g=>az q (by omega) (by omega)) (by omega) (by omega) (by have:=m.2.2.2.2.1;omega)).mono ?_;rintro e w' ⟨rfl,H⟩;obtain⟨d2,I,u⟩:=H.out;have aT:=u.1.size;refine⟨rfl,d2,?_,m.ad u λq g=>⟨by omega,by omega⟩,⟨z,by omega,?_,?_⟩,aa,by omega,a1.kept2 (c0:=aa) u.1 (λq aS bh g=>?_) (λ_ _ g=>g) (av _) (av _),λq bQ bq=>?_⟩
  ·rw[ay (aM f j),jA];exact I
  ·rw[u.1.block q F (by rw[G];decide)];exact A
  ·rw[u.2.1 q F λg=>by omega];exact G
  ·have:=az q (by omega) bh;omega
  ·have:=m.1.size;rw[u.2.1 q (by omega) λg=>by omega];exact az q (by omega) bq
 ·obtain⟨d1,r,m,z,F,A,G⟩:=y;obtain⟨o,v,C⟩:=a9 h m.1 f j;refine⟨⟨o,v,C 0 _ rfl,C 1 _ rfl,C 2 _ rfl,C 3 _ rfl,C 4 _ rfl⟩,λbs an=>?_⟩;obtain⟨f1,f2⟩:=bl _ (aL (ai f j));have aX:i.sends[f]?=some ((n f).1,cn _ (n f).2):=by rw[<-ax,dh,ai f j];rfl
  refine((r.later an).send ⟨aq,a4 _ (aL aX)⟩ (n f).2 ((f2.ug m).up (eu.later d1 an)) f1 (by have:=m.2.2.2.2.2.1;omega) (by have:=m.2.2.2.2.1;omega)).mono ?_;rintro e w' ⟨rfl,H⟩;obtain⟨d2,I,u⟩:=H.out;have Y:=(eu.later d1 an).trans u;have aT:=Y.1.size;refine⟨rfl,d2,?_,(m.up Y).mono (by omega),z,by omega,?_,?_⟩
  ·rw[ay aX,jA];exact I
  ·rw[Y.1.block q F (by rw[G];decide)];exact A
  ·rw[Y.2.1 q F];exact G
 ·obtain⟨d1,r,m,z,F,A,G⟩:=y;refine⟨a7 h m.1 f j,?_⟩;refine(r.link aq (a5 _ (aL (al f j))) (by have:=m.2.2.2.2.2.2;omega)).mono ?_;rintro e w' ⟨rfl,H⟩;obtain⟨d2,I,u⟩:=H.out;have aT:=u.1.size;refine⟨rfl,d2,?_,(m.up u).mono (by omega),z,by omega,?_,?_⟩
  ·rw[ay (al f j),jA];exact I
  ·rw[u.1.block q F (by rw[G];decide)];exact A
  ·rw[u.2.1 q F];exact G
 ·obtain⟨d1,r,m,z,F,A,G⟩:=y;rw[bA (by omega),<-aW]at r;rw[bj];refine⟨λe=>?_,λe=>⟨d1,by rw[if_neg e];exact r,m.mono (by omega)⟩⟩;refine(r.fin aq (by have:=m.2.2.2.2.1;omega)).mono ?_;rintro bt w' ⟨rfl,H⟩;obtain⟨d2,I,u⟩:=H;exact⟨rfl,d2,by rw[if_pos e];exact I,(m.up u).mono (by omega)⟩
end
structure T8 where
 y0:Int
 y1:Int
 y2:ap
 ya:au
 yl:Nat
 yc:Nat
 f:Int
 sa:au
 sl:Nat
 sc:Nat
 pa:au
 pl:Nat
 pc:Nat
 ka:au
 kl:Nat
 kc:Nat
theorem Qe{w:ag}{q:Nat}{g:Array ar}{T:TypeId}{fr:Nat×Nat}(h:w.heap[q]?=some (.cells g T fr))(j:g.size=8)(v0 v1 v2 v3 c d e f:ar):((((((((w.setCell ⟨q,0,none⟩ v0).setCell ⟨q,1,none⟩ v1).setCell ⟨q,2,none⟩ v2).setCell ⟨q,3,none⟩ v3).setCell ⟨q,4,none⟩ c).setCell ⟨q,5,none⟩ d).setCell ⟨q,6,none⟩ e).setCell ⟨q,7,none⟩ f).heap[q]?=some (.cells #[v0,v1,v2,v3,c,d,e,f] T fr)/\bB (λb=>b=q) w ((((((((w.setCell ⟨q,0,none⟩ v0).setCell ⟨q,1,none⟩ v1).setCell ⟨q,2,none⟩ v2).setCell ⟨q,3,none⟩ v3).setCell ⟨q,4,none⟩ c).setCell ⟨q,5,none⟩ d).setCell ⟨q,6,none⟩ e).setCell ⟨q,7,none⟩ f):=by
 refine⟨?_,(((((((bK w q 0 v0).trans (bK _ q 1 v1) λ_ _ a=>a).trans (bK _ q 2 v2) λ_ _ a=>a).trans (bK _ q 3 v3) λ_ _ a=>a).trans (bK _ q 4 c) λ_ _ a=>a).trans (bK _ q 5 d) λ_ _ a=>a).trans (bK _ q 6 e) λ_ _ a=>a).trans (bK _ q 7 f) λ_ _ a=>a⟩;obtain⟨l⟩:=g;have i:l.length=8:=by simpa using j
 match l,i with
 | [a0,a1,a2,a3,a4,a5,a6,a7],_=>simp[World.setCell,bQ,h]
def OS(e:T8->Int->ag->ag->Prop)(w:ag)(q:Nat)(t:T8)(g:Int)(d:ag):Prop:=
 ∃a c,am w a/\e t g a c/\(w.heap.size<=q/\(q<a.heap.size\/c.heap.size<=q))/\d.heap[q]?=some (.cells #[ab t.y0,ab t.y1,af t.y2,ae t.ya t.yl t.yc,ab t.f,ae t.sa t.sl t.sc,ae t.pa t.pl t.pc,ae t.ka t.kl t.kc] 117)/\bB (λb=>b=q) c d
theorem yO(g:Nat)(Z:Option Nat)(a S Y:Int)(N:au)(P O:Nat)(aa:ar)(F:Bool)(w:ag)(E:T8->Int->ag->ag->Prop)(M:Nat->T8->ag->Prop)(C:Nat->T8->ar->Bool->ag->Prop)(R:Int->ag->Prop)(aY:IntKind.i64.wrap (S+1)=Y)(a4:g<w.heap.size)(ad:Hid (ah w g 0 (ae N P O)/\ah w g 2 (ab S)/\ah w g 3 (.map Z)))(ax:(Instr.lookup 67 (.map Z) (ab a) true).run Tryz.prog w=.ok (.tuple #[aa,.bool F]) w)(J:Hid (F=false->R 4 w))(L:Hid (F=true->∀W,am w W->ao 45 #[aa,ae N P O,ab a,ab Y] W λe w'=>∃(t:T8)(h:Int),e=.returned (.tuple #[.agg #[ab t.y0,ab t.y1,af t.y2,ae t.ya t.yl t.yc,ab t.f,ae t.sa t.sl t.sc,ae t.pa t.pl t.pc,ae t.ka t.kl t.kc],ab h])/\Hid (E t h W w'/\(∀q,w.heap.size<=q->q<W.heap.size->w'.heap[q]?=W.heap[q]?)/\W.heap.size<=w'.heap.size/\(ah w' g 0 (ae N P O)/\ah w' g 2 (ab S)))))(HB:Hid (∀q t h W,OS E w q t h W->h≠0->R h W))(B:Hid (∀q t W,OS E w q t 0 W->ao 46 #[aH g,af ⟨#[116,97,107,101]⟩,ab a,ab 0,.agg #[ab t.y0,ab t.y1,af t.y2,ae t.ya t.yl t.yc]] W λe w'=>e=.returned (.tuple #[])/\Hid (M q t w')))(x:Hid (∀q t W,M q t W->ao 47 #[aH g,ae t.pa t.pl t.pc] W λe w'=>∃v b,e=.returned (.tuple #[v,.bool b])/\Hid (C q t v b w')))(y:Hid (∀q t W,M q t W->W.heap[q]?=some (.cells #[ab t.y0,ab t.y1,af t.y2,ae t.ya t.yl t.yc,ab t.f,ae t.sa t.sl t.sc,ae t.pa t.pl t.pc,ae t.ka t.kl t.kc] 117)))(z:Hid (∀q t v b W,C q t v b W->W.heap[q]?=some (.cells #[ab t.y0,ab t.y1,af t.y2,ae t.ya t.yl t.yc,ab t.f,ae t.sa t.sl t.sc,ae t.pa t.pl t.pc,ae t.ka t.kl t.kc] 117)))(m:Hid (∀q t v b W,C q t v b W->(t.f=2\/t.f=3)->ao 48 #[aH g,ab a,ab t.f] W λe w'=>e=.returned (.tuple #[])/\Hid (R 0 w')))(n:Hid (∀q t v W,C q t v false W->¬(t.f=2\/t.f=3)->ao 48 #[aH g,ab a,ab 2] W λe w'=>e=.returned (.tuple #[])/\Hid (R 0 w')))(p:Hid (∀q t v W,C q t v true W->¬(t.f=2\/t.f=3)->ao 49 #[aH g,ab a,.agg #[ab t.y0,ab t.y1,af t.y2,ae t.ya t.yl t.yc,ab t.f,ae t.sa t.sl t.sc,ae t.pa t.pl t.pc,ae t.ka t.kl t.kc],v] W λe w'=>e=.returned (.tuple #[])/\Hid (R 0 w'))):ao 24 #[aH g,ab a] w λe w'=>∃v,e=.returned (ab v)/\Hid (R v w'):=by
 obtain⟨an,ap,aw⟩:=ad;go_enter func24,ntmps24;go_upto_region 2 with fail;cases F
 ·have K:=aq (J rfl);clear L J HB B x y z m n p;go_wp2_with fail
  go_ret
  exact⟨4,rfl,K⟩
 have V:=aq (L rfl);clear L J ax aw;have H:Hid (am w w.drew):=(aA _ _).drew;have I:Hid (∀o,am w (w.drew.alloc o)):=λo=>(aA _ _).drew.alloc (av _) o;have aZ:¬(w.heap.size=g):=by omega
 have a0:¬(g=w.heap.size):=by omega
 go_upto_region 4 with fail;go_cut [7,8] (λay az aC=>∃(q:Nat)(t:T8)(h:Int),ay=aH q/\az=ab h/\Hid (OS E w q t h aC))
 case first=>
  clear HB B x y z m n p
  go_region_with ((first
   | (go_at_call 45;refine(V _ (by first|exact H|exact I _)).mono ?_;rintro e c ⟨t,h,rfl,r⟩;have a3:g<c.heap.size:=(by have:=r.2.2.1;simp at this;omega);have a1:¬(c.heap.size=g):=(by omega);have a2:¬(g=c.heap.size):=(by omega);obtain⟨a6,a7⟩:=r.out.2.2.2;(first|(have d:c.heap[w.heap.size]?=some (.cells #[ab 0,ab 0,af ⟨#[]⟩,ae none 0 0,ab 0,ae none 0 0,ae none 0 0,ae none 0 0] 117):=((r.2.1 w.heap.size (av _) (by simp)).trans (aD w.drew _));obtain⟨a8,a9,ba,bb,bc,bd,be,bf⟩:ah c w.heap.size 0 (ab 0)/\ah c w.heap.size 1 (ab 0)/\ah c w.heap.size 2 (af ⟨#[]⟩)/\ah c w.heap.size 3 (ae none 0 0)/\ah c w.heap.size 4 (ab 0)/\ah c w.heap.size 5 (ae none 0 0)/\ah c w.heap.size 6 (ae none 0 0)/\ah c w.heap.size 7 (ae none 0 0):=⟨ai d 0,ai d 1,ai d 2,ai d 3,ai d 4,ai d 5,ai d 6,ai d 7⟩;have aE:c.frozen? ⟨w.heap.size,0,none⟩=false:=(by simp[World.frozen?,d]);have aF:c.frozen? ⟨w.heap.size,1,none⟩=false:=(by simp[World.frozen?,d]);have aG:c.frozen? ⟨w.heap.size,2,none⟩=false:=(by simp[World.frozen?,d]);have aI:c.frozen? ⟨w.heap.size,3,none⟩=false:=(by simp[World.frozen?,d]);have aJ:c.frozen? ⟨w.heap.size,4,none⟩=false:=(by simp[World.frozen?,d]);have aK:c.frozen? ⟨w.heap.size,5,none⟩=false:=(by simp[World.frozen?,d]);have aL:c.frozen? ⟨w.heap.size,6,none⟩=false:=(by simp[World.frozen?,d]);have aM:c.frozen? ⟨w.heap.size,7,none⟩=false:=(by simp[World.frozen?,d]);have al:=aq d;clear d)|skip))))
  all_goals (go_wp2_with fail;go_meet)
  all_goals (refine⟨_,t,h,rfl,rfl,?_⟩)
  all_goals (first
   | exact⟨_,c,H,r.1,⟨by have:=r.2.2.1;simpa using this,ak (av _)⟩,aD _ _,aR (aS _ _) _⟩
   | exact⟨_,c,I _,r.1,⟨av _,aj (by simp)⟩,Qe al rfl _ _ _ _ _ _ _ _⟩)
 case rest=>
 obtain⟨q,t,h,rfl,rfl,A⟩:=hcut;clear V H I an ap;by_cases Q:h=0;rotate_left
 ·have K:=aq (HB _ _ _ _ A Q);have a5:(h==0)=false:=by simpa using Q
  clear A HB B x y z m n p;go_wp2_with fail
  go_ret
  exact⟨h,rfl,K⟩
 subst Q;have X:=aq (B _ _ _ A);obtain⟨_,_,_,_,_,D,_⟩:=A.out;have d0:ah wc q 0 (ab t.y0):=ai D 0;have d1:ah wc q 1 (ab t.y1):=ai D 1;have d2:ah wc q 2 (af t.y2):=ai D 2;have d3:ah wc q 3 (ae t.ya t.yl t.yc):=ai D 3;clear D A HB B;go_wp2_with fail;refine X.mono ?_;rintro e aB ⟨rfl,G⟩;have U:=aq (x _ _ _ G);have d6:ah aB q 6 (ae t.pa t.pl t.pc):=ai (y _ _ _ G) 6;clear X x y G d0 d1 d2 d3;go_wp2_with fail;refine U.mono ?_;rintro e j ⟨v,b,rfl,k⟩;have i:=aq (z _ _ _ _ _ k);have f4:ah j q 4 (ab t.f):=ai i 4;clear d6 U z;by_cases u:t.f=2\/t.f=3
 ·have s:=aq (m _ _ _ _ _ k u);clear n p m k i;generalize t.f=f at*;rcases u with rfl|rfl
  ·go_wp2_with fail;refine s.mono ?_;rintro e T ⟨rfl,l⟩;go_wp2_with fail
   go_ret
   exact⟨0,rfl,l⟩
  ·go_wp2_with fail;refine s.mono ?_;rintro e T ⟨rfl,l⟩;go_wp2_with fail
   go_ret
   exact⟨0,rfl,l⟩
 have aW:(t.f==2)=false:=by simpa using λe=>u (aj e)
 have aX:(t.f==3)=false:=by simpa using λe=>u (ak e)
 cases b
 ·have s:=aq (n _ _ _ _ k u);clear n p m k i;go_wp2_with fail;refine s.mono ?_;rintro e T ⟨rfl,l⟩;go_wp2_with fail
  go_ret
  exact⟨0,rfl,l⟩
 ·have s:=aq (p _ _ _ _ k u);have aN:ah j q 0 (ab t.y0):=ai i 0;have aO:ah j q 1 (ab t.y1):=ai i 1;have aP:ah j q 2 (af t.y2):=ai i 2;have aQ:ah j q 3 (ae t.ya t.yl t.yc):=ai i 3;have aT:ah j q 5 (ae t.sa t.sl t.sc):=ai i 5;have aU:ah j q 6 (ae t.pa t.pl t.pc):=ai i 6;have aV:ah j q 7 (ae t.ka t.kl t.kc):=ai i 7;clear n p m k i;go_wp2_with fail;refine s.mono ?_;rintro e T ⟨rfl,l⟩;go_wp2_with fail
  go_ret
  exact⟨0,rfl,l⟩
def Gy(f:Tk)(t:T8)(d:gz)(W:ag):Prop:=
 ∃(h g:Nat)(c:List (Int×Tm (h+1)))(e:List (Int×ap×Tm (h+1))),(c.length=t.sl/\e.length=t.pl/\f.links.length=t.kl)/\W.ownsRow g 177 5 (ae t.sa t.sl t.sc) t.sl (c.flatMap λa=>Ou a.1 a.2)/\W.ownsRow g 174 6 (ae t.pa t.pl t.pc) t.pl (e.flatMap λa=>Pv a.1 a.2.1 a.2.2)/\W.ownsRow g 3 1 (ae t.ka t.kl t.kc) t.kl (f.links.map λi=>ab i)/\
  c.map (λa=>(a.1,cn _ a.2))=f.sends/\e.map (λa=>(a.1,a.2.1,cn _ a.2.2))=f.spawns/\(∀a∈c,bG _ a.2=0/\Gs d W a.2)/\(∀a∈e,bG _ a.2.2=0/\Gs d W a.2.2)/\∀b,((Value.slice t.sa t.sl t.sc).ownBlock=some b\/(Value.slice t.pa t.pl t.pc).ownBlock=some b\/(Value.slice t.ka t.kl t.kc).ownBlock=some b)->b<W.heap.size/\0<=d.ow b
theorem Gy.kee{n:Tk}{t:T8}{d h:gz}{W g:ag}(r:Gy n t d W)(b:bB (λq=>d.ow q<0) W g)(m:∀q,q<W.heap.size->h.ow q=d.ow q):Gy n t h g:=by
 obtain⟨o,p,A,B,e,s,u,v,w,y,k,l,f⟩:=r;have hF:∀{z:Nat}{x:Tm z},Gs d W x->Gs h g x:=λj=>by
  have e:=eE b (D:=λq=>0<=d.ow q/\q<W.heap.size) (λq a C=>by omega) ⟨j.1,In.offB j.2 j.1⟩;exact⟨e.1,e.2.mono λq a=>by rw[m q a.2];exact a.1⟩
 have i:∀q,((Value.slice t.sa t.sl t.sc).ownBlock=some q\/(Value.slice t.pa t.pl t.pc).ownBlock=some q\/(Value.slice t.ka t.kl t.kc).ownBlock=some q)->¬d.ow q<0:=λq a=>by have:=(f q a).2;omega
 exact⟨o,p,A,B,e,bw s b λq a=>i q (aj a),bw u b λq a=>i q (ak (aj a)),bw v b λq a=>i q (ak (ak a)),w,y,λa c=>⟨(k a c).1,hF (k a c).2⟩,λa c=>⟨(l a c).1,hF (l a c).2⟩,λq a=>⟨aW (f q a).1 b.size,by rw[m q (f q a).1];exact(f q a).2⟩⟩
def Q8(t:T8):Obj:=.cells #[ab t.y0,ab t.y1,af t.y2,ae t.ya t.yl t.yc,ab t.f,ae t.sa t.sl t.sc,ae t.pa t.pl t.pc,ae t.ka t.kl t.kc] 117
section
variable {p:lB} {s:Sy} {d:gz} {w:ag}
theorem gB.ug{M:aO}{k b c:Nat}{d1 d2:gz}{w1 w2:ag}(l:gB k c d d1 w w1)(g:qw M b d1 d2 w1 w2)(m:∀q,M q->w.heap.size<=q):gB (k+b) c d d2 w w2:=by
 obtain⟨e,f,t,u,v,x⟩:=l;obtain⟨i,j,_,o,p,r,s⟩:=g;have y:=e.size;exact⟨e.trans i λq a h=>by rw[f q a]at h;omega,λq a=>(j q (by omega) λn=>by have:=m q n;omega).trans (f q a),by omega,by omega,by omega,by omega⟩
def PX(p:lB)(s:Sy)(d:gz)(w:ag)(a:Tk)(q:Nat)(t:T8)(d1:gz)(W:ag):Prop:=
 bz p s d1 W/\gB 1 402 d d1 w W/\(w.heap.size<=q/\q<W.heap.size/\d1.ow q=0/\W.heap[q]?=some (Q8 t))/\t.f=a.fate/\Gy a t d1 W
theorem bz.run(q:bz p s d w){a:Int}(aS:dI a)(cq:d.k<=46000)(cm:d.es.length<=96000)(cx:d.wn<=800000)(cp:d.bn<=800000):ao 24 #[aH p.b,ab a] w λe w'=>∃v,e=.returned (ab v)/\Hid (v=(s.run p.n p.prog p.room a).2/\∃F,bz p (s.run p.n p.prog p.room a).1 F w'/\gB 201 402 d F w w'):=by
 obtain⟨bO,aX⟩:=q.lo;obtain⟨a8,ci,a9,ba⟩:=q.cells;obtain⟨_,_,_,ck,cl,_⟩:=q.keys;have bg:kO (p.n+1) p.prog=true:=(fE q.pg.2.2.2.1).1;have be:IntKind.i64.wrap (s.last+1)=s.last+1:=by rw[IntKind.wrap];simp[IntKind.bits,IntKind.signed];omega
 have af:=q.look a true;have ay:=q.alive a;rw[if_pos rfl]at af;obtain⟨Q,m⟩:∃Q,Q=s.run p.n p.prog p.room a:=⟨_,rfl⟩;rw[<-m];unfold Sy.run at m;cases hg:s.get a with
 | none=>
  rw[hg]at m ay;rw[ay]at af;have bx:(4:Int)=Q.2/\∃F,bz p Q.1 F w/\gB 201 402 d F w w:=by
   rw[m];exact⟨rfl,d,q,(eu.later d (aA _ _)).un.mono (aM _) (aM _)⟩
  exact yO p.b d.po a s.last (s.last+1) p.pa p.prog.length p.pc _ false w (λ_ _ _ _=>False) (λ_ _ _=>False) (λ_ _ _ _ _=>False) (λv w'=>v=Q.2/\∃F,bz p Q.1 F w'/\gB 201 402 d F w w') be aX ⟨a8,a9,ba⟩ af (λ_=>bx) ((λg=>by cases g)) (λ_ _ _ _ ⟨_,_,_,g,_⟩=>g.elim) (λ_ _ _ ⟨_,_,_,g,_⟩=>g.elim) (λ_ _ _ g=>g.elim) (λ_ _ _ g=>g.elim) (λ_ _ _ _ _ g=>g.elim) (λ_ _ _ _ _ g=>g.elim) (λ_ _ _ _ g=>g.elim) λ_ _ _ _ g=>g.elim
 | some x=>
  obtain⟨C,ad,W⟩:=x;rw[hg]at m ay;obtain⟨bs,aC⟩:=gm.1 ay;rw[aC]at af;obtain⟨b6,bF,bE,ar,bI,cj⟩:=q.ps a bs aC;rw[hg]at ar;obtain⟨rfl,rfl,rfl⟩:C=b6/\ad=bF/\W=bE:=by
   injection ar with ar;injection ar with A u;injection u with u bH;exact⟨A,u,bH⟩
  have co:=(q.key aC).1;obtain⟨U,aQ⟩:∃U,U=sr p.n p.room p.prog C a (s.last+1) ad W:=⟨_,rfl⟩;simp only[<-aQ]at m;have aB:∀h,w.heap.size<=h->d.ow h=0:=λh aU=>by
   by_cases g:d.ow h=0
   ·exact g
   ·have:=(q.low h g).2;omega
  refine yO p.b d.po a s.last (s.last+1) p.pa p.prog.length p.pc _ true w
   (λt aa l w'=>(aa≠0/\aa=U/\am l w')\/(aa=0/\U=0/\∃(r:Tc)(i:Tk)(K:Nat),(r.1=(t.y0,t.y1,t.y2)/\r.2.1=(t.ya,t.yc)/\r.2.2.length=t.yl)/\nW p.room p.prog C a (s.last+1) ad W=some i/\t.f=i.fate/\cn 13 r=i.message/\bG 13 r=0/\In w'.heap.size w' 13 r/\cv (λh=>l.heap.size<=h/\h<K) 13 r/\b9 (λh=>d.ow h=a) l w'/\l.heap.size<K/\P1 p.lo bs C p.room i.state i.mail (d.k+201+402) (λb=>(d.ow b=a\/K<=b)/\b<w'.heap.size) w'/\i.mail.length<=W.length/\mB (l.heap.size+1) i.sends i.spawns i.links t.sa t.sl t.sc t.pa t.pl t.pc t.ka t.kl t.kc (λ_=>True) w'))
   (λh t l=>∃i d1,U=0/\nW p.room p.prog C a (s.last+1) ad W=some i/\PX p ((s.put a (C,i.state,i.mail)).tell lE a 0 i.message) d w i h t d1 l)
   (λh t v b l=>∃i d1,U=0/\nW p.room p.prog C a (s.last+1) ad W=some i/\PX p ((s.put a (C,i.state,i.mail)).tell lE a 0 i.message) d w i h t d1 l/\b=Sy.made p.n p.prog p.room ((s.put a (C,i.state,i.mail)).tell lE a 0 i.message) i.spawns/\(b=true->∃V aN aO c,v=ae aN t.pl aO/\V.length=t.pl/\w.heap.size<=c/\(∀h,c<=h->d1.ow h=0)/\l.ownsRow c 65 1 v t.pl (V.map AU)/\mI p.lo p.room (d1.k+201) (λh=>v.ownBlock=some h) l.heap.size l i.spawns V c))
   (λv w'=>v=Q.2/\∃F,bz p Q.1 F w'/\gB 201 402 d F w w') be aX ⟨a8,a9,ba⟩ (by rw[af];rfl) ((λg=>by cases g)) (λ_ l ax=>?_) (λh t aa l aP bm=>?_) (λh t l aP=>?_) (λh t l G=>?_) (λh t l G=>?_) (λh t v b l G=>?_) (λh t v b l G O=>?_) (λh t v l G O=>?_) λh t v l G O=>?_
  ·have X:=q.later ax;have K:=cQ (ex (p.n+1)) 2 (pW (p.n+1)) p.pa;refine((bI.later ax).step p.prog p.pa p.pc l.heap.size X.pg.1.1 (av _) q.pg.2.1 q.pg.2.2.1 (λ_=>q.pg.2.2.2.2) (λbA aw=>K.2.2.1 _ _ _ bA _ (λb h=>aw.block b h.2 λg=>by have:=h.1;rw[g]at this;omega) (K.2.1 _ _ _ _ X.pg.1.2 X.pg.1.1) X.pg.1.1) (aF bO ax.size) (by omega) (by omega) a (s.last+1)).mono ?_;rintro e w' (⟨aa,rfl,z⟩|⟨r,f,sa,sl,sc,pa,pl,pc,ka,kl,kc,rfl,z⟩)
   ·obtain⟨L,S,H⟩:=z.out;have bc:=(X.later H).cells;exact⟨⟨0,0,⟨#[]⟩,none,0,0,0,none,0,0,none,0,0,none,0,0⟩,aa,rfl,aj ⟨L,S.trans aQ.symm,H⟩,λh _ aU=>H.block h aU,H.size,bc.1,bc.2.2.1⟩
   ·obtain⟨i,K,L,S,H,ah,M,bV,bW,aG,bX,bU⟩:=z.out;have bb:w'.heap[p.b]?=some (.cells (ez p s d) 74):=(aG.block p.b (aW aX ax.size) (by rw[q.own];omega)).trans X.box;exact⟨⟨r.1.1,r.1.2.1,r.1.2.2,r.2.1.1,r.2.2.length,r.2.1.2,f,sa,sl,sc,pa,pl,pc,ka,kl,kc⟩,0,rfl,ak ⟨rfl,aQ.trans L,r,i,K,⟨rfl,rfl,rfl⟩,S,H,ah,M,bV,bW,aG,bX,bU⟩,λh au bJ=>aG.block h bJ (by rw[aB h au];omega),aG.size,ai bb 0,ai bb 2⟩
  ·obtain⟨R,ap,L,S,H,ah,M⟩:=aP;rcases S with⟨_,e,bY⟩|⟨e,_⟩
   ·rw[if_neg (by rw[<-e];exact bm)]at m;have aw:bB (λb=>b=h) w l:=((aR L λb=>b=h).trans (aR bY λb=>b=h) λ_ _ e=>e).trans M λ_ _ e=>e;rw[m];exact⟨e,d,q.kept aw λb g=>by rw[g];exact aB h H.1,aw.mono λb az g=>by omega,λ_ _=>rfl,by omega,by omega,by omega,by omega⟩
   ·exact absurd e bm
  ·obtain⟨R,ap,L,S,H,ah,M⟩:=aP;rcases S with⟨e,_⟩|⟨_,bK,r,i,K,⟨f1,f2,f3⟩,bZ,b1,b2,b3,bo,b4,Z,cz,bp,cy,b0⟩
   ·exact absurd rfl e
   have bN:bB (λh=>d.ow h=a) R ap:=⟨Z.os,Z.tape,Z.output,Z.size,Z.block⟩;have cs:=L.size;have ct:=Z.size;have cu:=M.size
   obtain⟨bt,bu⟩:=(q.later L).turnP aC hg bN (j:=d.k+402) (λh g=>by
    rcases g.1 with g|g
    ·exact aj g
    ·exact ak (by omega)) (by omega) (bp.mono (λ_ g=>g) (by omega) (P1.lie2 bp)) (by omega)
   generalize aT:({d with ow:=Gb d R ap a,k:=d.k+402}:gz)=d1 at bt bu;have bf:∀b,d1.ow b=if R.heap.size<=b/\b<ap.heap.size then a else d.ow b:=λb=>by rw[<-aT];rfl
   have aV:d1.ow h=0:=by
    rw[bf,if_neg (by omega)];exact aB h H.1
   have bh:∀b,R.heap.size<=b->0<=d1.ow b:=λb az=>by
    rw[bf];split
    ·omega
    ·rw[aB b (by omega)];exact jy 0
   have au:bz p (s.put a (C,i.state,i.mail)) d1 l:=bt.kept M λb g=>by rw[g];exact aV
   have bS:gB 0 402 d d1 w l:=by
    have A:=((eu.later d L).un.trans bu);obtain⟨ca,cb,cc,cd,ce,cf⟩:=A;exact⟨ca.trans M λb az g=>by omega,cb,by rw[<-aT]at cc ⊢;show d.k+402<=_;omega,cd,ce,cf⟩
   have bT:=eE M (D:=λb=>R.heap.size<=b/\b<ap.heap.size) (λb g ch=>by omega) ⟨bo,In.offB (b4.mono λb g=>g.1) bo⟩;have bL:Gy i t d1 l:=by
    obtain⟨aq,aK,aL,B,o,y,I,T,P,al,a5,b5⟩:=b0.kept M λb cg _ cB cC=>by omega
    have bd:∀{a4:Nat}{x:Tm a4},In l.heap.size l a4 x->cv (λb=>R.heap.size+1<=b/\True) a4 x->Gs d1 l x:=λbC bD=>⟨bC,bD.mono λb g=>bh b (by omega)⟩;refine⟨aq,_,aK,aL,B,o,y,I,T,P,λg J=>⟨(al g J).1,bd (al g J).2.1 (al g J).2.2⟩,λg J=>⟨(a5 g J).1,bd (a5 g J).2.1 (a5 g J).2.2⟩,λb g=>⟨?_,bh b (by have:=(b5 b g).1;omega)⟩⟩;rcases g with g|g|g
    ·exact(o.lt b g).2
    ·exact(y.lt b g).2
    ·exact(I.lt b g).2
   obtain⟨⟨cA,cg,ch⟩,⟨cD,cE⟩,cF⟩:=r;simp only[eC]at f1 f2;obtain⟨rfl,rfl,rfl⟩:=f1;obtain⟨rfl,rfl⟩:=f2;rw[<-f3];have bM:d1.es=d.es:=by rw[<-aT]
   refine(au.tell lE a 0 _ _ _ _ _ _ _ (kJ bT.1 b3) (by rw[bM];omega)).mono ?_;rintro e w' ⟨rfl,z⟩;obtain⟨d2,N,E⟩:=z.out.up au;have bi:=(aI.1 ah).1;have cw:=E.1.size;rw[b2]at N;refine⟨rfl,i,d2,bK,bZ,N,(bS.trans E.un).mono (by omega) (by omega),⟨H.1,by omega,by rw[E.2.1 h bi];exact aV,?_⟩,b1,bL.kee E.1 E.2.1⟩;rw[E.1.block h bi (by rw[aV];decide)];exact ah
  ·obtain⟨i,d1,A,u,⟨B,o,y,I,T⟩⟩:=G;obtain⟨aq,a7,aK,aL,Y,aZ,a0,a1,a2,ag,a3,aD,aE⟩:=T;have aY:=LP bg u;have cr:t.pl<=8:=by
    have:=aY.1.2.1;rw[<-ag,dN]at this;omega
   refine(B.made a0 Y.2.1 (by omega) λg J=>⟨(aD g J).1,(aD g J).2.1⟩).mono ?_;rintro e w' ⟨v,b,rfl,z⟩;obtain⟨an,bq,br⟩:=z.out;rw[ag]at bq br;have bQ:∀h,l.heap.size<=h->d1.ow h=0:=λh aU=>by
    by_cases g:d1.ow h=0
    ·exact g
    ·have:=(B.low h g).2;omega
   refine⟨v,b,rfl,i,d1,A,u,⟨B.later an,(o.trans (eu.later d1 an).un).mono (av _) (av _),⟨y.1,aW y.2.1 an.size,y.2.2.1,dp an y.2.2.2⟩,I,Gy.kee ⟨aq,a7,aK,aL,Y,aZ,a0,a1,a2,ag,a3,aD,aE⟩ (aR an _) λ_ _=>rfl⟩,bq,λaz=>?_⟩;obtain⟨V,aN,aO,b7,a6,bv,aJ⟩:=br az;exact⟨V,aN,aO,l.heap.size,b7,a6,o.1.size,bQ,bv,aJ⟩
  ·obtain⟨i,d1,A,u,B,o,y,_⟩:=G;exact y.2.2.2
  ·obtain⟨i,d1,A,u,⟨B,o,y,_⟩,_⟩:=G;exact y.2.2.2
  ·obtain⟨i,d1,A,u,⟨B,o,y,I,T⟩,_⟩:=G;rw[if_pos A,u]at m;simp only at m;rw[I]at O ⊢;rw[if_pos O]at m;refine(B.fin aS (by have:=o.2.2.2.1;omega)).mono ?_;rintro e w' ⟨rfl,z⟩;obtain⟨d2,N,E⟩:=z.out;rw[m];exact⟨rfl,rfl,d2,N,(o.trans E.un).mono (by omega) (by omega)⟩
  ·obtain⟨i,d1,A,u,⟨B,o,y,I,T⟩,P,_⟩:=G;rw[if_pos A,u]at m;simp only at m;rw[I]at O;rw[if_neg O,if_pos P.symm]at m;have bj:=congrArg Prod.fst m;have bk:=congrArg Prod.snd m;dsimp only at bj bk;refine(B.fin (how:=2) aS (by have:=o.2.2.2.1;omega)).mono ?_;rintro e w' ⟨rfl,z⟩;obtain⟨d2,N,E⟩:=z.out;rw[<-bj]at N;exact⟨rfl,bk.symm,d2,N,(o.trans E.un).mono (by omega) (by omega)⟩
  ·obtain⟨i,d1,A,u,⟨B,o,y,I,T⟩,P,al⟩:=G;rw[if_pos A,u]at m;simp only at m;rw[I]at O;have bR:¬Sy.made p.n p.prog p.room ((s.put a (C,i.state,i.mail)).tell lE a 0 i.message) i.spawns=false:=λg=>Bool.noConfusion (P.trans g);rw[if_neg O,if_neg bR]at m;obtain⟨V,aN,aO,c,rfl,a6,bv,aJ,bw,b8⟩:=al rfl;obtain⟨aq,a7,aK,aL,Y,aZ,a0,a1,a2,ag,a3,aD,aE⟩:=T;have aY:=LP bg u;have bl:i.spawns.length=t.pl:=by rw[<-ag,dN];exact Y.2.1
   have bP:Sy.may ((s.put a (C,i.state,i.mail)).tell lE a 0 i.message) t.pl=true:=by
    unfold Sy.made at P;rw[bl]at P;exact(Bool.and_eq_true_iff.1 P.symm).1
   have hF:=B.follow (pa:=t.pa) (pl:=t.pl) (pc:=t.pc) aS i aY t.y0 t.y1 t.y2 t.ya t.yl t.yc aZ a1 bw ⟨Y.1,Y.2.2,a6,bl⟩ a2 a3 (λb g=>?_) b8 (av _) (λh g _=>aJ h g) bP (by have:=o.2.2.1;omega) (by have:=o.2.2.2.1;omega) (by have:=o.2.2.2.2.1;omega) (by have:=o.2.2.2.2.2;omega)
   ·rw[<-I]at hF;refine hF.mono ?_;rintro e w' ⟨rfl,z⟩;obtain⟨d2,N,E⟩:=z;rw[m];exact⟨rfl,rfl,d2,N,o.ug E λh g=>by omega⟩
   ·rcases g with g|g|g
    ·exact(aE b (aj g)).2
    ·exact(aE b (ak (ak g))).2
    ·rw[aJ b (bw.lt b g).1];exact jy 0
end
theorem LC(o:Nat)(kd a b p q:Int)(r:ap)(xa:au)(s xc:Nat)(w:ag)(R:Int->ag->Prop)(l:Hid (kd=1->∀W,am w W->ao 24 #[aH o,ab a] W λe w'=>∃v,e=.returned (ab v)/\Hid (R v w')))(h:Hid (kd=2->∀W,am w W->ao 25 #[aH o,ab a,ab b] W λe w'=>∃v,e=.returned (ab v)/\Hid (R v w')))(k:Hid (kd=3->∀W,am w W->ao 26 #[aH o,ab a,.agg #[ab p,ab q,af r,ae xa s xc]] W λe w'=>∃v,e=.returned (ab v)/\Hid (R v w')))(j:Hid (¬(kd=1\/kd=2\/kd=3)->∀W,am w W->R 1 W)):ao 8 #[aH o,.agg #[ab kd,ab a,ab b,ab p,ab q,af r,ae xa s xc]] w λe w'=>∃v,e=.returned (ab v)/\Hid (R v w'):=by
 go_enter func8,ntmps8;go_upto_region 1 with fail;generalize u:w.alloc _=c;have HB:Hid (am w c):=by
  rw[<-u];exact aS _ _
 have d:c.heap[w.heap.size]?=some (.cells #[ab kd,ab a,ab b,ab p,ab q,af r,ae xa s xc] 33):=by
  rw[<-u];exact aD _ _
 generalize w.heap.size=f at*;clear u;have d0:ah c f 0 (ab kd):=ai d 0;have d1:ah c f 1 (ab a):=ai d 1;have d2:ah c f 2 (ab b):=ai d 2;have d3:ah c f 3 (ab p):=ai d 3;have d4:ah c f 4 (ab q):=ai d 4;have d5:ah c f 5 (af r):=ai d 5;have d6:ah c f 6 (ae xa s xc):=ai d 6;clear d;by_cases m:kd=1
 ·have i:=aq (l m _ HB);subst m;clear l h k j;go_wp2_with fail;refine i.mono ?_;rintro e y ⟨v,rfl,g⟩;go_wp2_with fail
  go_ret
  exact⟨v,rfl,g⟩
 have x:(kd==1)=false:=by simpa using m
 by_cases n:kd=2
 ·have i:=aq (h n _ HB);subst n;clear l h k j m x;go_wp2_with fail;refine i.mono ?_;rintro e y ⟨v,rfl,g⟩;go_wp2_with fail
  go_ret
  exact⟨v,rfl,g⟩
 have A:(kd==2)=false:=by simpa using n
 by_cases t:kd=3
 ·have i:=aq (k t _ HB);subst t;clear l h k j m x n A;go_wp2_with fail;refine i.mono ?_;rintro e y ⟨v,rfl,g⟩;go_wp2_with fail
  go_ret
  exact⟨v,rfl,g⟩
 have B:(kd==3)=false:=by simpa using t
 have z:=aq (j (by omega) _ HB);clear l h k j;go_wp2_with fail
 go_ret
 exact⟨1,rfl,z⟩
section
variable {p:lB} {s:Sy} {d:gz} {w:ag}
theorem bz.do(o:bz p s d w){kd a b:Int}(u:I2 (a,b)){m:Nat}(x:Tm (m+1))(y:In w.heap.size w (m+1) x/\cv (λq=>¬1<=d.ow q) (m+1) x)(A:(aC (m+1) x).length<=2097152)(C:d.k<=46000)(z:d.es.length<=96000)(D:d.wn<=800000)(B:d.bn<=800000):ao 8 #[aH p.b,.agg #[ab kd,ab a,ab b,ab x.1.1,ab x.1.2.1,af x.1.2.2,ae x.2.1.1 x.2.2.length x.2.1.2]] w λe w'=>∃v,e=.returned (ab v)/\Hid (v=(s.do p.n p.prog p.room kd a b (m+1) x).2/\∃f,bz p (s.do p.n p.prog p.room kd a b (m+1) x).1 f w'/\gB 201 402 d f w w'):=by
 obtain⟨r,g⟩:∃r,r=s.do p.n p.prog p.room kd a b (m+1) x:=⟨_,rfl⟩;rw[<-g];unfold Sy.do at g;refine LC p.b kd a b x.1.1 x.1.2.1 x.1.2.2 x.2.1.1 x.2.2.length x.2.1.2 w (λv w'=>v=r.2/\∃f,bz p r.1 f w'/\gB 201 402 d f w w') (λe t c=>?_) (λe t c=>?_) (λe t c=>?_) λe t c=>?_
 ·rw[if_pos e]at g;refine((o.later c).run u.1 C z D B).mono ?_;rintro e w' ⟨v,rfl,h⟩;obtain⟨i,f,j,l⟩:=h.out;rw[g];exact⟨v,rfl,i,f,j,((eu.later d c).un.trans l).mono (by omega) (by omega)⟩
 ·rw[if_neg (by omega),if_pos e]at g;refine((o.later c).arrive u (by omega) (by omega) (by omega)).mono ?_;rintro e w' ⟨v,rfl,h⟩;obtain⟨i,f,j,l⟩:=h.out;rw[g];exact⟨v,rfl,i,f,j,((eu.later d c).un.trans l).mono (by omega) (by omega)⟩
 ·rw[if_neg (by omega),if_neg (by omega),if_pos e]at g;refine((o.later c).inject u.1 x ⟨(y.1.below c).mono c.size,y.2⟩ A (by omega) (by omega)).mono ?_;rintro e w' ⟨v,rfl,h⟩;obtain⟨i,f,j,l⟩:=h;rw[g];exact⟨v,rfl,i,f,j,((eu.later d c).un.trans l).mono (by omega) (by omega)⟩
 ·rw[if_neg (by omega),if_neg (by omega),if_neg (by omega)]at g;rw[g];exact⟨rfl,d,o.later c,(eu.later d c).un.mono (by omega) (by omega)⟩
end
theorem IZ(y:au)(A z:Nat)(room E:Int)(w:ag)(n:Int->Int->ap->au->Nat->Nat->ag->Prop)(r:au->Nat->Nat->ag->Prop)(R:ar->Int->ag->Prop)(x:Hid (ao 37 #[ae y A z] w λe w'=>∃y0 y1 y2 ya yl yc,e=.returned (.tuple #[.agg #[ab y0,ab y1,af y2,ae ya yl yc],ab E])/\Hid (n y0 y1 y2 ya yl yc w')))(j:Hid (E=0->(0<=room/\room<=1000)->∀y0 y1 y2 ya yl yc W b,n y0 y1 y2 ya yl yc W->am W b->ao 38 #[.agg #[ab y0,ab y1,af y2,ae ya yl yc]] b λe w'=>∃a l c h,e=.returned (.tuple #[ae a l c,ab h])/\Hid (r a l c w')))(g:Hid (∀y0 y1 y2 ya yl yc W b,n y0 y1 y2 ya yl yc W->am W b->(E≠0->R (.pointer none) E b)/\(E=0->¬(0<=room/\room<=1000)->R (.pointer none) 1 b)))(k:Hid (∀a l c W,E=0->(0<=room/\room<=1000)->r a l c W->R (aH W.heap.size) 0 (W.alloc (.cells #[ae a l c,ab room,ab 0,.map none,.map none,.map none,ae none 0 0] 74)))):ao 18 #[ae y A z,ab room] w λe w'=>∃v h,e=.returned (.tuple #[v,ab h])/\Hid (R v h w'):=by
 go_enter func18,ntmps18;go_wp2_with fail;refine x.mono ?_;rintro e i ⟨y0,y1,y2,ya,yl,yc,rfl,d⟩;clear x;have m:Hid (∀o,am i (i.alloc o)):=λo=>aS _ o;by_cases p:E=0;rotate_left
 ·have f:Hid (∀o,R (.pointer none) E (i.alloc o)):=λo=>(g _ _ _ _ _ _ _ _ d (m o)).1 p;have F:(E==0)=false:=by simpa using p
  clear j g k d;go_wp2_with fail;exact ay (v:=.tuple #[.pointer none,ab E]) (by simp[results,results18,go_sem]) rfl ⟨_,_,rfl,f _⟩
 subst p;by_cases q:0<=room/\room<=1000;rotate_left
 ·have f:Hid (∀o,R (.pointer none) 1 (i.alloc o)):=λo=>(g _ _ _ _ _ _ _ _ d (m o)).2 rfl q;clear j g k d;by_cases B:room<0
  ·go_wp2_with fail;exact ay (v:=.tuple #[.pointer none,ab 1]) (by simp[results,results18,go_sem]) rfl ⟨_,_,rfl,f _⟩
  ·have C:1000<room:=by omega
   go_wp2_with fail;exact ay (v:=.tuple #[.pointer none,ab 1]) (by simp[results,results18,go_sem]) rfl ⟨_,_,rfl,f _⟩
 have t:=aq (λb=>j rfl q y0 y1 y2 ya yl yc i b d);have u:=aq (λa l c W=>k a l c W rfl q);have B:¬room<0:=by omega
 have C:¬1000<room:=by omega
 clear j k g d;go_wp2_with fail;refine(t _ (m _)).mono ?_;rintro e D ⟨a,l,c,h,rfl,s⟩;have f:=aq (u _ _ _ _ s);clear t u s;go_wp2_with fail;exact ay (v:=.tuple #[aH D.heap.size,ab 0]) (by simp[results,results18,go_sem]) rfl ⟨_,_,rfl,f⟩
def Mw:Sy:=⟨0,[],λ_=> [],λ_=>false,[]⟩
def mq(n:Nat)(l:List (Bh (n+1)))(room:Int):Int:=if mF n l≠0 then mF n l else if 0<=room/\room<=1000 then 0 else 1
def OT(n:Nat)(l:List (Bh (n+1)))(room:Int)(w:ag)(v:ar)(d:Int)(w':ag):Prop:=
 d=mq n l room/\am w w'/\(d≠0->v=.pointer none)/\(d=0->∃(a:lB)(c:gz),v=aH a.b/\bz a Mw c w'/\(c.k=0/\c.es=[]/\c.wn=0/\c.bn=0)/\a.room=room/\a.lo=w.heap.size/\a.n=n+5/\aB (a.n+6) (cg a.n a.prog) (n+6) (cg n l)=true)
theorem CQ(n:Nat)(l:List (Bh (n+1)))(y:au)(q:Nat)(room:Int)(w:ag)(U:gG (n+1) w.heap.size w y l)(V:l.length<=q)(W:q<=maxLen)(F:kO (n+1) l=true->(aC (n+6) (cg n l)).length<=2097152):ao 18 #[ae y l.length q,ab room] w λe w'=>∃v M,e=.returned (.tuple #[v,ab M])/\Hid (OT n l room w v M w'):=by
 refine IZ y l.length q room (mF n l) w (λy0 y1 y2 ya yl yc d=>am w d/\∃f:Tm (n+6),(f.1=(y0,y1,y2)/\f.2.1=(ya,yc)/\f.2.2.length=yl)/\In d.heap.size d (n+6) f/\aB (n+6) f (n+6) (LZ n l)=true)
  (λi h c d=>∃g:List (Bh (n+6)),g.length=h/\(∃A,am w A/\am A d)/\(h<=c/\c<=maxLen)/\gG (n+6) d.heap.size d i g/\ub (kh (n+6) λb=>w.heap.size<=b) (λb=>w.heap.size<=b) i g/\mF (n+5) g=0/\aB (n+11) (cg (n+5) g) (n+6) (cg n l)=true) (OT n l room w) ?_ (λj u y0 y1 y2 ya yl yc d r p o=>?_) (λy0 y1 y2 ya yl yc d r p o=>⟨λj=>?_,λj u=>?_⟩) λi h c d j u hF=>?_
 ·refine(L0 n l y q V W w.heap.size w U (av _) F).mono ?_;rintro e w' ⟨f,rfl,z⟩;obtain⟨O,P,ak,Q⟩:=z.out;exact⟨f.1.1,f.1.2.1,f.1.2.2,f.2.1.1,f.2.2.length,f.2.1.2,rfl,O,f,⟨rfl,rfl,rfl⟩,P,Q⟩
 ·obtain⟨m,f,⟨f1,f2,f3⟩,D,x⟩:=p;obtain⟨⟨ax,ay,az⟩,⟨aA,aE⟩,aF⟩:=f;simp only[eC]at f1 f2;obtain⟨rfl,rfl,rfl⟩:=f1;obtain⟨rfl,rfl⟩:=f2;subst f3;obtain⟨t1,t2,t3⟩:=Jc j x;refine(BK (n+5) (n+6) (av _) _ r.heap.size r ((D.below o).mono o.size) (fw t1) (av _)).mono ?_;rintro e w' ⟨g,i,c,rfl,z⟩;obtain⟨aa,ad,af,ah,ap,ai⟩:=z;obtain⟨a,Y,Z⟩:=ai t2;obtain⟨aq,K,L,ar,aw⟩:=t3 a g Y Z;have G:=m.trans (o.mono m.size);have an:=G.size;have h:=cQ (ex (n+6)) 2 (pW (n+6)) i;rw[(fE K).2.2,(fE j).2.2]at L;exact⟨i,g.length,c,_,rfl,g,rfl,⟨r,G,aa⟩,ad,af,h.1 _ _ _ (λb a=>by omega) ah,K,L⟩
 ·have m:=p.1.trans (o.mono p.1.size);exact⟨by unfold mq;rw[if_pos j],m,λ_=>rfl,λa=>absurd a j⟩
 ·have m:=p.1.trans (o.mono p.1.size);exact⟨by unfold mq;rw[if_neg (by rw[j];decide),if_neg u],m,λ_=>rfl,(λa=>by cases a)⟩
 ·obtain⟨g,rfl,⟨A,E,N⟩,H,C,I,X,x⟩:=hF;have m:=E.trans (N.mono E.size);have J:=m.size;have s:am d (d.alloc (.cells #[ae i g.length c,ab room,ab 0,.map none,.map none,.map none,ae none 0 0] 74)):=aS _ _;generalize R:d.alloc (.cells #[ae i g.length c,ab room,ab 0,.map none,.map none,.map none,ae none 0 0] 74)=B at s;have t:B.heap[d.heap.size]?=some (.cells #[ae i g.length c,ab room,ab 0,.map none,.map none,.map none,ae none 0 0] 74):=by
   rw[<-R];exact aD _ _
  have al:=(aI.1 t).1;refine⟨by unfold mq;rw[if_neg (by rw[j];decide),if_pos u],m.trans (s.mono m.size),λa=>absurd rfl a,λ_=>⟨⟨w.heap.size,d.heap.size,room,n+5,g,i,c⟩,⟨λb=>if b=d.heap.size then -5 else if w.heap.size<=b/\b<d.heap.size then -4 else 0,none,[],none,0,λ_=> [],λ_=>lU,none,0,ae none 0 0,[],0⟩,rfl,?_,⟨rfl,rfl,rfl,rfl⟩,rfl,rfl,rfl,x⟩⟩;have h:=cQ (ex (n+6)) 2 (pW (n+6)) i;refine⟨λb a=>?_,t,if_pos rfl,⟨⟨?_,?_⟩,H.1,H.2,X,?_⟩,aj ⟨rfl,rfl⟩,⟨rfl,List.nodup_nil,by simp[Mw],by decide,by decide,by simp[Mw]⟩,?_,⟨⟨J,(qS t).1,aj ⟨rfl,rfl,rfl⟩⟩,?_,λ_=>rfl,λ_=>aM _,?_⟩,⟨⟨J,(qS t).2,aj ⟨rfl,rfl⟩⟩,?_,(λb a=>by cases a)⟩,⟨eU _ _ _ _,(λb a=>by cases a)⟩,rfl,(λe S=>by cases S)⟩
  ·have a:(if b=d.heap.size then (-5:Int)else if w.heap.size<=b/\b<d.heap.size then -4 else 0)≠0:=a;show w.heap.size<=b/\b<B.heap.size;split at a
   ·omega
   ·split at a
    ·omega
    ·exact absurd rfl a
  ·exact h.2.2.2.1 _ _ _ _ s.size (h.2.2.1 _ _ _ B _ (λb a=>s.block b a.2) (h.2.1 _ _ _ _ I C) C)
  ·refine h.1 _ _ _ (λb a=>?_) (h.2.1 _ _ _ _ I C);exact(if_neg (by omega)).trans (if_pos ⟨a.1,a.2⟩)
  ·rw[kR _ _ _ _ x];exact F (fE j).1
  ·intro k b a;cases a
  ·intro b a;rcases a with a|a|⟨k,_,a⟩
   ·exact aj a
   ·cases a
   ·cases a
  ·intro k f D;cases D
  ·intro k T;cases T
theorem Bl(xs:List ar)(g len c:Nat)(w:ag)(v:Hid (xs.length=len*7))(t:Hid (∀d∈xs,d.oneCell'=true))(E:len<=2000000)(x:Hid (∀w1,am w w1->∀j d,xs[j]?=some d->w1.cell? ((⟨g,0,none⟩:Addr).add j)=some d)):ao 55 #[ae (some ⟨g,0,none⟩) len c] w λe w'=>∃r,e=.returned r/\Hid (am w w'/\w'.ownsRow w.heap.size 54 7 r len xs):=by
 obtain⟨C,l,o,p,q⟩:=bU KC;have a:=aq (⟨l,o,p,q⟩:_/\_/\_/\_);clear l o p q;have F:∀(w:ag)(b:au)(n c h f:Nat),(binOp .eql 38 (ae b n c) (ae none h f)).run Tryz.prog w=.ok (.bool b.isNone) w:=λw b n c h f=>Lib.run_eql_slice_nil w _ _ b n c h f underlying38;have D:(some (⟨g,0,none⟩:Addr)).isNone=false:=rfl;go_enter func55,ntmps55;go_wp2_with (at_builtin;refine wpList_append_own _ rfl _ _ 38 rfl w.heap.size 54 C _ 7 88 underlying38 a.1 a.2.1 a.2.2.1 a.2.2.2 rfl (by decide) _ _ _ rfl (World.ownsRow_made w #[] 0 (av _) (aM _) (by simp)) ⟨g,0,none⟩ len c xs rfl ?qc1 ?qc2 ?qc3 ?qc4 ?qc5 ?qc6 ?_)
 case qc1=>exact v
 case qc2=>exact x _ (aS _ _)
 case qc3=>exact t
 case qc4=>unfold maxLen;omega
 case qc5=>omega
 case qc6=>simp
 intro s w1 m i A;have u:Hid (am w w1/\w1.ownsRow w.heap.size 54 7 s len xs):=by
  have y:am w w1:=Below.grown (aS _ _) i (by simp) (by intro k z;simp[Value.ownBlock]at z;omega);have B:w1.ownsRow w.heap.size 54 7 s len xs:=by simpa using m
  exact⟨y,B⟩
 clear m i A;go_wp2_with fail
 go_ret
 exact⟨_,rfl,u⟩
theorem Bk(c:Nat)(w:ag):ao 55 #[ae none 0 c] w λe w'=>e=.returned (ae none 0 0)/\w'=w:=by
 have g:∀(w:ag)(a:au)(n c d b:Nat),(binOp .eql 38 (ae a n c) (ae none d b)).run Tryz.prog w=.ok (.bool a.isNone) w:=λw a n c d b=>Lib.run_eql_slice_nil w _ _ a n c d b underlying38;have f:(none:au).isNone=true:=rfl;go_enter func55,ntmps55;go_wp2_with fail
 go_ret
 exact⟨rfl,rfl⟩
theorem Ks(h:Nat)(q:au)(L d:Nat)(v x:Nat->Int)(y:Nat->ap)(xa:Nat->au)(z xc:Nat->Nat)(w:ag)(k:au->Nat->Nat->ag->Prop)(E:h<w.heap.size)(N:L<=1000000)(O:L<=d)(F:q=none/\L=0/\d=0\/∃g,q=some ⟨g,0,none⟩)(r:Hid (ah w h 6 (ae q L d)))(s:Hid (∀W,am w W->ao 55 #[ae q L d] W λe w'=>∃a c,e=.returned (ae a L c)/\Hid (am W w'/\k a c 0 w')))(t:Hid (∀a c j W,j<L->k a c j W->∃g,a=some ⟨g,0,none⟩/\ah W g (j*7+3) (ab (v j))/\ah W g (j*7+3+1) (ab (x j))/\ah W g (j*7+3+2) (af (y j))/\ah W g (j*7+3+3) (ae (xa j) (z j) (xc j))/\ Hid (ao 56 #[.agg #[ab (v j),ab (x j),af (y j),ae (xa j) (z j) (xc j)]] W λe w'=>∃y0 y1 y2 ya yl yc,e=.returned (.agg #[ab y0,ab y1,af y2,ae ya yl yc])/\Hid ((w'.frozen? ⟨g,j*7+3,none⟩=false/\w'.frozen? ⟨g,j*7+3+1,none⟩=false/\w'.frozen? ⟨g,j*7+3+2,none⟩=false/\w'.frozen? ⟨g,j*7+3+3,none⟩=false)/\(ah w' g (j*7+3) (ab (v j))/\ah w' g (j*7+3+1) (ab (x j))/\ah w' g (j*7+3+2) (af (y j))/\ah w' g (j*7+3+3) (ae (xa j) (z j) (xc j)))/\k a c (j+1) (cZ w' g (j*7+3) (ab y0) (ab y1) (af y2) (ae ya yl yc)))))):ao 29 #[aH h,ab 0] w λe w'=>∃a c,e=.returned (ae a L c)/\Hid (k a c L w'):=by
 have b:Hid (am w w.drew):=(aA _ _).drew;have i:Hid (∀W,am w W->ah W h 6 (ae q L d)):=λW C=>(C.cell (p:=⟨h,6,none⟩) E).trans r;have M:=r.out;have S:¬((L:Int)<0):=by omega
 have T:(0:Int)<=(L:Int):=by omega
 have U:(L:Int)<=(d:Int):=by omega
 have V:¬((d:Int)<(L:Int)):=by omega
 have X:¬(d<L):=by omega
 have Y:min (0:Int) (L:Int)=0:=by omega
 go_enter func29,ntmps29;go_upto_region 1 with fail;rcases F with⟨rfl,rfl,rfl⟩|⟨B,rfl⟩
 ·go_region_held3 (λW=>ah W h 6 (ae none 0 0)) (first|exact i _ b|exact i _ m) ((first
    | (go_at_call 55;refine(s _ b).mono ?_;rintro e G ⟨a,c,rfl,f⟩;have m:=aq (b.trans (f.1.mono b.size)))))
  have l:=aq f.2;clear s r i b m t f;go_wp2_with fail;go_loopw [6,23] (λ_ o wr=>o=ab 0/\Hid (k a c 0 wr)) (λ_ _ _=>0)
  case atStart=>exact⟨rfl,l⟩
  case round=>
  obtain⟨rfl,n⟩:=hrel;clear l;go_wp2_with fail
  go_ret
  exact⟨a,c,rfl,n⟩
 ·go_region_held3 (λW=>ah W h 6 (ae (some ⟨B,0,none⟩) L d)) (first|exact i _ b|exact i _ m) ((first
    | (go_at_call 55;refine(s _ b).mono ?_;rintro e G ⟨a,c,rfl,f⟩;have m:=aq (b.trans (f.1.mono b.size)))))
  clear s r i b m;have l:=aq f.2;clear f;go_wp2_with fail;go_loopw [6,23] (λ_ o wr=>∃(j:Nat),j<=L/\o=ab j/\Hid (k a c j wr)) (λ_ o _=>L-(intOf o).toNat)
  case atStart=>exact⟨0,aM _,rfl,l⟩
  case round=>
  obtain⟨j,P,rfl,n⟩:=hrel;by_cases D:j<L
  ·obtain⟨g,rfl,H,I,J,K,A⟩:=t.out a c j wr D n;have Q:(0:Int)<=(j:Int):=by omega
   have R:(j:Int)<(L:Int):=by omega
   clear t n;go_wp2_with fail;refine A.mono ?_;rintro e Z ⟨y0,y1,y2,ya,yl,yc,rfl,u⟩;obtain⟨⟨f0,f1,f2,f3⟩,d0,d1,d2,d3⟩:=(⟨u.1,u.2.1⟩:_/\_);go_wp2_with fail;go_roundw
   case rel=>exact⟨j+1,by omega,by go_num,u.2.2⟩
   case measure=>simp[intOf];omega
  ·obtain rfl:j=L:=by omega
   clear t l;go_wp2_with fail
   go_ret
   exact⟨a,c,rfl,n⟩
theorem DC(G:au)(I H:Nat)(room:Int)(sa:au)(sl sc:Nat)(nm t:Nat->ap)(r s:Nat->Int)(xa:Nat->au)(u xc:Nat->Nat)(w:ag)(x:ar->Int->ag->Prop)(m:Nat->Nat->ag->Prop)(R:ar->ag->Prop)(U:sl<=9223372036854775807)(E:Hid (ao 18 #[ae G I H,ab room] w λe w'=>∃v b,e=.returned (.tuple #[v,ab b])/\Hid (x v b w')))(i:Hid (∀v b W,x v b W->(b≠0\/4<sl)->R (.pointer none) W))(p:Hid (∀v W,x v 0 W->sl<=4->∃a,v=aH a/\m a 0 W))(l:Hid (∀a j W,j<sl->m a j W->∃g o,(sa=some ⟨g,o,none⟩/\ah W g (o+j*5) (af (nm j))/\ah W g (o+j*5+1) (ab (r j))/\ah W g (o+j*5+2) (ab (s j))/\ah W g (o+j*5+3) (af (t j))/\ah W g (o+j*5+4) (ae (xa j) (u j) (xc j)))/\Hid (∀F,am W F->ao 20 #[aH a,af (nm j),.agg #[ab (r j),ab (s j),af (t j),ae (xa j) (u j) (xc j)]] F λe w'=>∃v b,e=.returned (.tuple #[ab v,ab b])/\Hid (m a (j+1) w'))))(h:Hid (∀a W,m a sl W->R (aH a) W)):ao 6 #[ae G I H,ab room,ae sa sl sc] w λe w'=>∃v,e=.returned v/\Hid (R v w'):=by
 go_enter func6,ntmps6;go_wp2_with fail;refine E.mono ?_;rintro e Z ⟨v,b,rfl,d⟩;clear E;by_cases z:b=0;rotate_left
 ·have k:=aq (i _ _ _ d (aj z));have V:(b==0)=false:=by simpa using z
  clear i p l h d;go_wp2_with fail
  go_ret
  exact⟨_,rfl,k⟩
 subst z;by_cases Q:sl<=4;rotate_left
 ·have k:=aq (i _ _ _ d (ak (by omega)));have S:(4:Int)<(sl:Int):=by omega
  clear i p l h d;go_wp2_with fail
  go_ret
  exact⟨_,rfl,k⟩
 obtain⟨a,rfl,y⟩:=p.out _ _ d Q;have C:=aq y;have S:¬(4:Int)<(sl:Int):=by omega
 clear i p d y;go_wp2_with fail;go_loopw [10,26] (λ_ B wr=>∃(j:Nat),j<=sl/\B=ab j/\Hid (m a j wr)) (λ_ B _=>sl-(intOf B).toNat)
 case atStart=>exact⟨0,aM _,rfl,C⟩
 case round=>
 clear C;obtain⟨j,y,rfl,q⟩:=hrel;by_cases T:j<sl
 ·obtain⟨g,o,⟨rfl,L,M,N,O,P⟩,D⟩:=l.out a j _ T q;have X:(0:Int)<=(j:Int):=by omega
  have Y:(j:Int)<(sl:Int):=by omega
  clear l h q;go_upto_region 7 with fail;generalize A:World.alloc _ _=c;have f:c.heap[wr.heap.size]?=some (.cells #[af (nm j),ab (r j),ab (s j),af (t j),ae (xa j) (u j) (xc j)] 64):=by
   rw[<-A];exact aD _ _
  have K:=aq (D c (by rw[<-A];exact aS _ _));generalize wr.heap.size=n at*;have d0:ah c n 0 (af (nm j)):=ai f 0;have d1:ah c n 1 (ab (r j)):=ai f 1;have d2:ah c n 2 (ab (s j)):=ai f 2;have d3:ah c n 3 (af (t j)):=ai f 3;have d4:ah c n 4 (ae (xa j) (u j) (xc j)):=ai f 4;clear A f D L M N O P;go_wp2_with fail;refine K.mono ?_;rintro e aa ⟨v,b,rfl,J⟩;go_wp2_with fail;go_roundw
  case rel=>exact⟨j+1,by omega,by go_num,J⟩
  case measure=>simp[intOf];omega
 ·obtain rfl:j=sl:=by omega
  have k:=aq (h _ _ q);clear l h q;go_wp2_with fail
  go_ret
  exact⟨_,rfl,k⟩
theorem sW{n d:Nat}{p:List (Tm n)}{q:List (Tm d)}(c:aG (λa b=>aB n a d b) p q=true)(s:ap)(k:Nat):uC n p s k=uC d q s k:=by
 unfold uC;rw[cT _ _ _ c];cases p with
 | nil=>
  cases q with
  | nil=>rfl
  | cons b q=>simp[aG]at c
 | cons a p=>
  cases q with
  | nil=>simp[aG]at c
  | cons b q=>
   simp only[aG,aK]at c;have e:(gF n a).1=(gF d b).1:=by
    cases n with
    | zero=>exact absurd c.1 (by simp[aB])
    | succ n=>
     cases d with
     | zero=>exact absurd c.1 (by simp[aB])
     | succ d=>exact(bN c.1).1
   simp only[dc,(lH _ _ _ _ c.1).1,e]
theorem rB{n e:Nat}{p:List (Tm n)}{q:List (Tm e)}(f:aG (λa b=>aB n a e b) p q=true)(i:Nat):(p[i]?=none/\q[i]?=none)\/∃a b,p[i]?=some a/\q[i]?=some b/\aB n a e b=true/\a∈p/\b∈q:=by
 have h:=cT _ _ _ f;by_cases g:i<p.length
 ·have c:=aN g;have d:=aN (show i<q.length by omega);exact ak ⟨_,_,c,d,jQ _ _ _ f _ _ _ c d,aL c,aL d⟩
 ·exact aj ⟨eT (by omega),eT (by omega)⟩
theorem A1{n i N M:Nat}(f:Tm n->Option (Tm N))(g:Tm i->Option (Tm M)):(p:List (Tm n))->(q:List (Tm i))->aG (λa b=>aB n a i b) p q=true->(∀a∈p,∀b∈q,aB n a i b=true->fR N M (f a) (g b))->fR (N+1) (M+1) ((cV f p).map (dr N)) ((cV g q).map (dr M))/\((cV f p=none/\cV g q=none)\/∃l r,cV f p=some l/\cV g q=some r/\aG (λa b=>aB N a M b) l r=true)
 | [],[],_,_=>⟨by simp[cV,fR,aB,dr,aG],ak ⟨[],[],rfl,rfl,rfl⟩⟩
 | [],_::_,h,_=>by simp[aG]at h
 | _::_,[],h,_=>by simp[aG]at h
 | a::p,b::q,d,h=>by
  simp only[aG,aK]at d;have c:=h a (by simp) b (by simp) d.1;have s:=(A1 f g p q d.2 λx t y u=>h x (by simp[t]) y (by simp[u])).2;simp only[cV];cases e1:f a with
  | none=>
   rw[e1]at c;cases e:g b with
   | none=>simp[fR]
   | some _=>rw[e]at c;exact c.elim
  | some o=>
   rw[e1]at c;cases e:g b with
   | none=>rw[e]at c;exact c.elim
   | some v=>
    rw[e]at c;have d:aB N o M v=true:=c;rcases s with⟨j,k⟩|⟨l,r,j,k,m⟩
    ·rw[j,k];simp[fR]
    ·rw[j,k];exact⟨by simp[fR,aB,dr,aG,d,m],ak ⟨o::l,v::r,rfl,rfl,by simp[aG,d,m]⟩⟩
theorem AO(m:Nat)(b:List (Tm m))(i:Nat)(k:List (Tm i))(self:Int)(u:aG (λx y=>aB m x i y) b k=true)(z:∀y∈b,aJ ⟨m,y⟩)(A:∀y∈k,aJ ⟨i,y⟩):(n:Nat)->(x:Tm n)->(d:Nat)->(x':Tm d)->aJ ⟨n,x⟩->aJ ⟨d,x'⟩->aB n x d x'=true->fR (m+n) (i+d) (vl m b self n x) (vl i k self d x')
 | 0,_,_,_,_,_,h=>by simp[aB]at h
 | _+1,_,0,_,_,_,h=>by simp[aB]at h
 | n+1,x,d+1,x',hx,hx',h=>by
  obtain⟨H,j⟩:=bN h;unfold vl;rw[<-H];by_cases s:x.1.1=5
  ·rw[if_pos s,if_pos s];rcases rB u x.1.2.1.toNat with⟨e,f⟩|⟨y,F,e,f,C,p,q⟩
   ·rw[e,f];trivial
   ·rw[e,f];simp only[dP];rw[<-(lH _ _ _ _ C).1];by_cases g:b8 ⟨m,y⟩=6
    ·rw[if_pos g,if_pos g];trivial
    ·rw[if_neg g,if_neg g];exact jk (by omega) (by omega) (z y p) (A _ q) C
  ·rw[if_neg s,if_neg s];by_cases g:x.1.1=6
   ·rw[if_pos g,if_pos g];trivial
   ·rw[if_neg g,if_neg g];by_cases r:x.1.1=4
    ·rw[if_pos r,if_pos r,<-sW j,<-sW j,<-sW j];by_cases B:uC n x.2.2 qp 0=true
     ·rw[if_pos B,if_pos B];simp[fR,aB,bW,aG]
     ·rw[if_neg B,if_neg B];by_cases t:uC n x.2.2 xd 2=true
      ·rw[if_pos t,if_pos t];rcases rB j 1 with⟨e,f⟩|⟨a,o,e,f,l,p,q⟩
       ·rw[e,f];trivial
       ·rcases rB j 2 with⟨D,E⟩|⟨c,G,D,E,K,M,N⟩
        ·rw[e,f,D,E];trivial
        ·rw[e,f,D,E];simp only[dP];exact nV (AO m b i k self u z A n a d o (bi n x a hx p) (bi d x' o hx' q) l) λO v I=>nV (AO m b i k self u z A n c d G (bi n x c hx M) (bi d x' G hx' N) K) λP Q J=>yP I J
      ·rw[if_neg t,if_neg t];by_cases w:uC n x.2.2 Df 1=true
       ·rw[if_pos w,if_pos w];rcases rB j 1 with⟨e,f⟩|⟨a,o,e,f,l,p,q⟩
        ·rw[e,f];trivial
        ·rw[e,f];simp only[dP,cO _ _ _ _ l];cases aT d o
         ·simp[fR]
         ·exact jk (by omega) (by omega) (bi n x a hx p) (bi d x' o hx' q) l
       ·rw[if_neg w,if_neg w];exact(A1 _ _ x.2.2 x'.2.2 j λy C F L l=>AO m b i k self u z A n y d F (bi n x y hx C) (bi d x' F hx' L) l).1
    ·rw[if_neg r,if_neg r];exact jk (by omega) (by omega) hx hx' h
theorem Gp{B:List Tc}(c:∀y∈B,aJ ⟨13,y⟩)(self:Int){n a:Nat}{x:Tm n}{x':Tm a}(g:aJ ⟨n,x⟩)(h:aJ ⟨a,x'⟩)(e:aB n x a x'=true):tp B self n x=tp B self a x':=by
 have f:aG (λx y=>aB 13 x 13 y) B B=true:=jp _ _ λy i=>fO 13 y (c y i);have k:=AO 13 B 13 B self f c c n x a x' g h e;unfold tp;cases e1:vl 13 B self n x with
 | none=>
  rw[e1]at k;cases b:vl 13 B self a x' with
  | none=>rfl
  | some _=>rw[b]at k;exact k.elim
 | some j=>
  rw[e1]at k;cases b:vl 13 B self a x' with
  | none=>rw[b]at k;exact k.elim
  | some l=>
   rw[b]at k;have d:aB (13+n) j (13+a) l=true:=k;simp only[dP];rw[bZ d,iF d]
def Qv(k:Nat)(d:Dg):Prop:=(∀y∈d.b,aJ ⟨13,y⟩)/\1<=d.next/\d.next+k<=100
theorem tU{n:Nat}(a:Ac (n+1)):(a.1=1/\(cE n a).2.2=[br ni n,a.2.1.1,a.2.1.2])\/(a.1=2/\(cE n a).2.2=[br jt n,br a.2.2.1 n,a.2.1.2,bW 5 a.2.2.2 n])\/(a.1=3/\(cE n a).2.2=[br nh n,a.2.1.1])\/((a.1≠1/\a.1≠2/\a.1≠3)/\(cE n a).2.2=[br mu n]):=by
 unfold cE;by_cases b:a.1=1
 ·exact aj ⟨b,by rw[if_pos b];rfl⟩
 ·by_cases c:a.1=2
  ·exact ak (aj ⟨c,by rw[if_neg b,if_pos c];rfl⟩)
  ·by_cases d:a.1=3
   ·exact ak (ak (aj ⟨d,by rw[if_neg b,if_neg c,if_pos d];rfl⟩))
   ·exact ak (ak (ak ⟨⟨b,c,d⟩,by rw[if_neg b,if_neg c,if_neg d];rfl⟩))
theorem IE{a:Int}(d:1<=a/\a<=99):aJ ⟨13,EC a⟩:=by
 intro c b;have b:c∈[(((3,a,.empty),(none,0,0)):Nd)]:=b;obtain rfl:=dx.1 b;simp[cN,rh,d]
theorem Kk{n m:Nat}{a:Ac (n+1)}{b:Ac (m+1)}(c:aB (n+2) (cE n a) (m+2) (cE m b)=true)(v:aJ ⟨n+2,cE n a⟩)(w:aJ ⟨m+2,cE m b⟩)(self:Int){k:Nat}{d:Dg}(y:Qv (k+1) d):rK self a d=rK self b d/\∀h,rK self a d=some h->Qv k h:=by
 obtain⟨_,e⟩:=bN c;have E:=λl j=>bi (n+1) (cE n a) l v j;have F:=λl j=>bi (m+1) (cE m b) l w j;have u:=cT _ _ _ e;obtain⟨d1,d2,d3⟩:=y;have i:∀{x:Tm (n+1)}{x':Tm (m+1)},x∈(cE n a).2.2->x'∈(cE m b).2.2->aB (n+1) x (m+1) x'=true->tp d.b self (n+1) x=tp d.b self (m+1) x':=λz A B=>Gp d1 self (E _ z) (F _ A) B;rcases tU a with⟨f,o⟩|⟨f,o⟩|⟨f,o⟩|⟨f,o⟩<;>rcases tU b with⟨g,p⟩|⟨g,p⟩|⟨g,p⟩|⟨g,p⟩<;>rw[o,p]at u e i
 case inl.inl=>
  simp only[aG,aK,and_true]at e;have q:=i (x:=a.2.1.1) (x':=b.2.1.1) (by simp) (by simp) e.2.1;have r:=i (x:=a.2.1.2) (x':=b.2.1.2) (by simp) (by simp) e.2.2;unfold rK;rw[if_pos f,if_pos g,r];unfold nS;rw[q];refine⟨rfl,λh c=>?_⟩;obtain⟨G,_,c⟩:=bF.1 c;obtain⟨t,_,rfl⟩:=cD.1 c;exact⟨d1,d2,by simp only;omega⟩
 case inr.inl.inr.inl=>
  simp only[aG,aK,and_true]at e;have r:=i (x:=a.2.1.2) (x':=b.2.1.2) (by simp) (by simp) e.2.2.1;have C:a.2.2.1=b.2.2.1:=by
   have:=(bN e.2.1).1;simpa [br]using this
  have D:a.2.2.2=b.2.2.2:=by
   have:=(bN e.2.2.2).1;simpa [bW]using this
  unfold rK;rw[if_neg (show¬a.1=1 by omega),if_neg (show¬b.1=1 by omega),if_pos f,if_pos g,r,C,D];refine⟨rfl,λh c=>?_⟩;obtain⟨t,_,c⟩:=bF.1 c;split at c
  ·obtain rfl:=az c;refine⟨λl j=>?_,by simp only;omega,by simp only;omega⟩;rcases tz j with s|s
   ·exact d1 l s
   ·rw[s];exact IE (by omega)
  ·cases c
 case inr.inr.inl.inr.inr.inl=>
  simp only[aG,aK,and_true]at e;have q:=i (x:=a.2.1.1) (x':=b.2.1.1) (by simp) (by simp) e.2;unfold rK;rw[if_neg (show¬a.1=1 by omega),if_neg (show¬b.1=1 by omega),if_neg (show¬a.1=2 by omega),if_neg (show¬b.1=2 by omega),if_pos f,if_pos g];unfold nS;rw[q];refine⟨rfl,λh c=>?_⟩;obtain⟨G,_,rfl⟩:=cD.1 c;exact⟨d1,d2,by simp only;omega⟩
 case inr.inr.inr.inr.inr.inr=>
  unfold rK;rw[if_neg f.1,if_neg g.1,if_neg f.2.1,if_neg g.2.1,if_neg f.2.2,if_neg g.2.2];refine⟨rfl,λh c=>?_⟩;obtain rfl:=az c;exact⟨d1,d2,by simp only;omega⟩
 all_goals exact absurd u (by simp)
theorem Bw{n m:Nat}(self:Int):(l:List (Ac (n+1)))->(r:List (Ac (m+1)))->aG (λx y=>aB (n+2) x (m+2) y) (l.map (cE n)) (r.map (cE m))=true->(∀a∈l,aJ ⟨n+2,cE n a⟩)->(∀b∈r,aJ ⟨m+2,cE m b⟩)->∀{d:Dg},Qv l.length d->qA self l d=qA self r d/\∀f,qA self l d=some f->∀y∈f.b,aJ ⟨13,y⟩
 | [],[],_,_,_,d,hd=>⟨rfl,λf c=>by obtain rfl:=az c;exact hd.1⟩
 | [],_::_,c,_,_,_,_=>by simp[aG]at c
 | _::_,[],c,_,_,_,_=>by simp[aG]at c
 | a::l,b::r,c,ha,hb,d,hd=>by
  simp only[aV,aG,aK]at c;obtain⟨h,i⟩:=Kk c.1 (ha a (by simp)) (hb b (by simp)) self hd;unfold qA;rw[<-h];cases e:rK self a d with
  | none=>exact⟨rfl,λ_ c=>by cases c⟩
  | some f=>exact Bw self l r c.2 (λx g=>ha x (by simp[g])) (λx g=>hb x (by simp[g])) (i f e)
def PI{n m:Nat}(c:Cl (n+1))(a:Cl (m+1)):Prop:=(aB (n+1) c.1.1 (m+1) a.1.1=true/\aB (n+1) c.1.2.1 (m+1) a.1.2.1=true/\aB (n+1) c.1.2.2 (m+1) a.1.2.2=true)/\aG (λx y=>aB (n+2) x (m+2) y) (c.2.2.map (cE n)) (a.2.2.map (cE m))=true
theorem oT{n m:Nat}{x:Tm (n+1)}{y:Tm (m+1)}(b:bG (n+1) x=0)(c:bG (m+1) y=0)(a:aB (n+3) (aZ (n+3) (n+1) x) (m+3) (aZ (m+3) (m+1) y)=true):aB (n+1) x (m+1) y=true:=
 bP _ _ _ _ _ _ (dS _ _ _ _ (fN (n+3) (n+1) (by omega) x (aU.2 (bJ.1 b).1))) (bP _ _ _ _ _ _ a (fN (m+3) (m+1) (by omega) y (aU.2 (bJ.1 c).1)))
theorem MT{n m:Nat}{c:Cl (n+1)}{a:Cl (m+1)}(f:aB (n+4) (dU n c) (m+4) (dU m a)=true)(b:qt c)(d:qt a):PI c a:=by
 obtain⟨_,e⟩:=bN f;simp only[dU,dr,aG,aK,and_true]at e;obtain⟨_,g,h,i,j⟩:=e;exact⟨⟨oT b.1 d.1 g,oT b.2.1 d.2.1 h,oT b.2.2.1 d.2.2.1 j⟩,(bN i).2⟩
theorem MJ:nJ.length=4/\∀y∈nJ,Dx y:=by
 refine⟨rfl,λy a=>?_⟩;simp only[nJ,ov,cm]at a;obtain⟨x,b,rfl⟩:=a;rw[List.eq_of_mem_replicate b];exact⟨by kernel_rfl,aj rfl⟩
theorem G6{n m:Nat}{c:Cl (n+1)}{e:Cl (m+1)}(f:PI c e){s t:Tc}(j:bG 13 s=0/\aT 13 s=true)(k:bG 13 t=0/\aT 13 t=true):lT c s t=lT e s t/\∀b,lT c s t=some b->∀y∈b,aJ ⟨13,y⟩:=by
 have r:aB 13 s 13 s=true:=fO _ _ (aU.2 (bJ.1 j.1).1);have u:aB 13 t 13 t=true:=fO _ _ (aU.2 (bJ.1 k.1).1);have a:=mQ _ c.1.1 13 s _ e.1.1 13 s nJ nJ f.1.1 r uZ;unfold lT;cases e1:iB (n+1) c.1.1 13 s nJ with
 | none=>
  rw[e1]at a;cases g:iB (m+1) e.1.1 13 s nJ with
  | none=>exact⟨rfl,λ_ f=>by cases f⟩
  | some _=>rw[g]at a;exact a.elim
 | some b=>
  rw[e1]at a;cases g:iB (m+1) e.1.1 13 s nJ with
  | none=>rw[g]at a;exact a.elim
  | some i=>
   rw[g]at a;have q:=lF Dx oL _ c.1.1 13 s ⟨j.1,ak j.2⟩ _ _ MJ e1;have d:=mQ _ c.1.2.1 13 t _ e.1.2.1 13 t b i f.1.2.1 u a;simp only[dP];cases e3:iB (n+1) c.1.2.1 13 t b with
   | none=>
    rw[e3]at d;cases h:iB (m+1) e.1.2.1 13 t i with
    | none=>exact⟨rfl,λ_ f=>by cases f⟩
    | some _=>rw[h]at d;exact d.elim
   | some x=>
    rw[e3]at d;cases h:iB (m+1) e.1.2.1 13 t i with
    | none=>rw[h]at d;exact d.elim
    | some z=>
     rw[h]at d;refine⟨by simp only[nB];rw[J8 d],λw l y o=>?_⟩;obtain rfl:=az l;obtain⟨v,p,rfl⟩:=cm.1 o;exact aU.2 (bJ.1 (nK ((lF Dx oL _ c.1.2.1 13 t ⟨k.1,ak k.2⟩ _ _ q e3).2 v p).1)).1
theorem sN{n m:Nat}(name:ap):(l:List (Bh (n+1)))->(r:List (Bh (m+1)))->aG (λx y=>aB (n+5) x (m+5) y) (l.map (ee n)) (r.map (ee m))=true->(gD (n+1) name l=none/\gD (m+1) name r=none)\/∃b a,gD (n+1) name l=some b/\gD (m+1) name r=some a/\aG (λx y=>aB (n+4) x (m+4) y) (b.2.2.map (dU n)) (a.2.2.map (dU m))=true/\b∈l/\a∈r
 | [],[],_=>aj ⟨rfl,rfl⟩
 | [],_::_,h=>by simp[aG]at h
 | _::_,[],h=>by simp[aG]at h
 | b::l,a::r,h=>by
  simp only[aV,aG,aK]at h;obtain⟨_,f⟩:=bN h.1;simp only[ee,dr,aG,aK]at f;have e:b.1=a.1:=by
   have:=(bN f.2.1).1;simpa [br]using this
  unfold gD;rw[e];by_cases d:a.1=name
  ·rw[if_pos d,if_pos d];exact ak ⟨b,a,rfl,rfl,f.2.2,by simp,by simp⟩
  ·rw[if_neg d,if_neg d];rcases sN name l r h.2 with k|⟨c,g,i,j,o,p,q⟩
   ·exact aj k
   ·exact ak ⟨c,g,i,j,o,by simp[p],by simp[q]⟩
theorem xP{n m:Nat}{s t:Tc}(o:bG 13 s=0/\aT 13 s=true)(p:bG 13 t=0/\aT 13 t=true):(l:List (Cl (n+1)))->(r:List (Cl (m+1)))->aG (λx y=>aB (n+4) x (m+4) y) (l.map (dU n)) (r.map (dU m))=true->(∀c∈l,qt c)->(∀c∈r,qt c)->(mO s t l=none/\mO s t r=none)\/∃c a b,mO s t l=some (c,b)/\mO s t r=some (a,b)/\PI c a/\(c∈l/\a∈r)/\∀y∈b,aJ ⟨13,y⟩
 | [],[],_,_,_=>aj ⟨rfl,rfl⟩
 | [],_::_,h,_,_=>by simp[aG]at h
 | _::_,[],h,_,_=>by simp[aG]at h
 | c::l,a::r,h,hl,hr=>by
  simp only[aV,aG,aK]at h;have j:=MT h.1 (hl c (by simp)) (hr a (by simp));obtain⟨g,i⟩:=G6 j o p;unfold mO;rw[<-g];cases e:lT c s t with
  | some b=>exact ak ⟨c,a,b,rfl,rfl,j,⟨by simp,by simp⟩,i b e⟩
  | none=>
   rcases xP o p l r h.2 (λx f=>hl x (by simp[f])) (λx f=>hr x (by simp[f]))with k|⟨d,u,b,g,i,v,q,w⟩
   ·exact aj k
   ·exact ak ⟨d,u,b,g,i,v,⟨by simp[q.1],by simp[q.2]⟩,w⟩
theorem vk{n m:Nat}{s:Tc}(k:bG 13 s=0/\aT 13 s=true){l:List (Cl (n+1))}{r:List (Cl (m+1))}(f:aG (λx y=>aB (n+4) x (m+4) y) (l.map (dU n)) (r.map (dU m))=true)(g:∀c∈l,qt c)(h:∀c∈r,qt c):(ms:List Tc)->(∀t∈ms,bG 13 t=0/\aT 13 t=true)->(i:Nat)->(sP l s ms i=none/\sP r s ms i=none)\/∃j c a b,sP l s ms i=some (j,c,b)/\sP r s ms i=some (j,a,b)/\PI c a/\(c∈l/\a∈r)/\∀y∈b,aJ ⟨13,y⟩
 | [],_,_=>aj ⟨rfl,rfl⟩
 | t::ms,ht,i=>by
  unfold sP;rcases xP k (ht t (by simp)) l r f g h with⟨d,e⟩|⟨c,a,b,d,e,p⟩
  ·rw[d,e];exact vk k f g h ms (λx o=>ht x (by simp[o])) (i+1)
  ·rw[d,e];exact ak ⟨i,c,a,b,rfl,rfl,p⟩
theorem Gz{n:Nat}{c:Cl (n+1)}(d:bG (n+3) (dr (n+2) (c.2.2.map (cE n)))=0):∀a∈c.2.2,aJ ⟨n+2,cE n a⟩:=λa b=>aU.2 (bJ.1 (fX d (by simp only[dr];exact lg b))).1
theorem He{n m:Nat}{c:Cl (n+1)}{f:Cl (m+1)}(h:PI c f)(g:qt c/\∀a∈c.2.2,aJ ⟨n+2,cE n a⟩)(i:qt f/\∀a∈f.2.2,aJ ⟨m+2,cE m a⟩)(room self next:Int)(k:1<=next/\next<=92)(s t:Tc)(ms:List Tc){b:List Tc}(j:∀y∈b,aJ ⟨13,y⟩):fD room self next s t ms c b=fD room self next s t ms f b:=by
 have p:=g.1.2.2.2.1;obtain⟨l,o⟩:=Bw self c.2.2 f.2.2 h.2 g.2 i.2 (d:=⟨b,next,[],[],[],false⟩) ⟨j,k.1,by simp only;omega⟩;unfold fD;rw[<-l];cases e:qA self c.2.2 ⟨b,next,[],[],[],false⟩with
 | none=>rfl
 | some d=>
  have:=Gp (o d e) self (aU.2 (bJ.1 g.1.2.2.1).1) (aU.2 (bJ.1 i.1.2.2.1).1) h.1.2.2;simp only[this]
theorem yy{n:Nat}{p:List (Bh (n+1))}(d:mF n p=0):∀b∈p,∀c∈b.2.2,qt c/\∀a∈c.2.2,aJ ⟨n+2,cE n a⟩:=λb e c f=>by
 have g:=(fE d).2.1;have h:bG (n+5) (ee n b)=0:=fX g (by simp only[cg,dr];exact bT _ (lg e));have i:bG (n+4) (dU n c)=0:=fX h (by simp only[ee,dr];exact bT _ (bT _ (lg f)));exact⟨((Gd d).2 b e).2 c f,Gz (vi i 3 rfl)⟩
theorem wT{n m:Nat}{P:List (Bh (n+1))}{Q:List (Bh (m+1))}(b:aB (n+6) (cg n P) (m+6) (cg m Q)=true):aG (λx y=>aB (n+5) x (m+5) y) (P.map (ee n)) (Q.map (ee m))=true:=by
 obtain⟨_,a⟩:=bN b;simp only[cg,dr,aG,aK]at a;exact a.2
theorem vJ{n m:Nat}{P:List (Bh (n+1))}{Q:List (Bh (m+1))}(d:aB (n+6) (cg n P) (m+6) (cg m Q)=true)(nm:ap):lL n P nm=lL m Q nm:=by
 unfold lL;rcases sN nm P Q (wT d)with⟨a,c⟩|⟨b,e,a,c,_⟩<;>rw[a,c]<;>rfl
theorem I3{n m:Nat}{P:List (Bh (n+1))}{Q:List (Bh (m+1))}(z:aB (n+6) (cg n P) (m+6) (cg m Q)=true)(A:mF n P=0)(B:mF m Q=0)(room:Int)(nm:ap)(self next:Int)(C:1<=next/\next<=92){s:Tc}(w:bG 13 s=0/\aT 13 s=true){ms:List Tc}(v:∀t∈ms,bG 13 t=0/\aT 13 t=true):nW room P nm self next s ms=nW room Q nm self next s ms:=by
 have p:=yy A;have q:=yy B;have key:(sP (gH nm P) s ms 0=none/\sP (gH nm Q) s ms 0=none)\/∃f c a b,sP (gH nm P) s ms 0=some (f,c,b)/\sP (gH nm Q) s ms 0=some (f,a,b)/\PI c a/\((qt c/\∀i∈c.2.2,aJ ⟨n+2,cE n i⟩)/\qt a/\∀i∈a.2.2,aJ ⟨m+2,cE m i⟩)/\∀H∈b,aJ ⟨13,H⟩:=by
  unfold gH;rcases sN nm P Q (wT z)with⟨d,e⟩|⟨b,u,d,e,o,g,h⟩
  ·rw[d,e];rcases vk w (l:=([]:List (Cl (n+1)))) (r:=([]:List (Cl (m+1)))) rfl (by simp) (by simp) ms v 0 with k|⟨_,_,_,_,_,_,_,k,_⟩
   ·exact aj k
   ·cases k.1
  ·rw[d,e];rcases vk w o (λc j=>(p b g c j).1) (λc j=>(q u h c j).1) ms v 0 with k|⟨f,c,a,x,D,E,F,y,G⟩
   ·exact aj k
   ·exact ak ⟨f,c,a,x,D,E,F,⟨p b g c y.1,q u h a y.2⟩,G⟩
 unfold nW;rcases key with⟨d,e⟩|⟨f,c,a,b,d,e,o,g,h⟩
 ·rw[d,e];rfl
 ·rw[d,e];simp only[dP];congr 1;funext t;exact He o g.1 g.2 room self next C s t _ h
theorem FJ{n m:Nat}{P:List (Bh (n+1))}{Q:List (Bh (m+1))}(d:aB (n+6) (cg n P) (m+6) (cg m Q)=true)(f:mF n P=0)(g:mF m Q=0){s:Sy}(q:∀a nm cs c,s.get a=some (nm,cs,c)->(bG 13 cs=0/\aT 13 cs=true)/\∀t∈c,bG 13 t=0/\aT 13 t=true)(v:0<=s.last/\s.last<=90)(room i a b:Int)(k:Nat)(x:Tm k):s.do n P room i a b k x=s.do m Q room i a b k x:=by
 have p:lL n P=lL m Q:=funext λnm=>vJ d nm;have r:s.run n P room a=s.run m Q room a:=by
  unfold Sy.run;cases e:s.get a with
  | none=>rfl
  | some u=>
   obtain⟨nm,cs,c⟩:=u;obtain⟨j,l⟩:=q a nm cs c e;have h:=I3 d f g room nm a (s.last+1) ⟨by omega,by omega⟩ j l;have o:sr n room P nm a (s.last+1) cs c=sr m room Q nm a (s.last+1) cs c:=by
    unfold sr;rw[h,f,g]
   simp only[o,h,Sy.made,p];split
   ·cases nW room Q nm a (s.last+1) cs c<;>rfl
   ·rfl
 unfold Sy.do;rw[r]
theorem wO{n m:Nat}{P:List (Bh (n+1))}{Q:List (Bh (m+1))}(a:aB (n+6) (cg n P) (m+6) (cg m Q)=true)(s:Sy)(room:Int)(nm:ap)(k:Nat)(x:Tm k):s.start n P room nm k x=s.start m Q room nm k x:=by
 unfold Sy.start;rw[vJ a]
theorem KF{n:Nat}{P:List (Bh (n+1))}{k d:Nat}{x:Tm k}{y:Tm d}(c:aB k x d y=true)(s:Sy)(room a b:Int):s.do n P room 3 a b k x=s.do n P room 3 a b d y:=by
 unfold Sy.do Sy.inject;rw[bZ c,cO _ _ _ _ c,iF c]
def re:ap:=⟨#[99,111,117,110,116]⟩
def QW:ap:=⟨#[117,112]⟩
def QV:ap:=⟨#[97,115,107]⟩
def Ql:ap:=⟨#[104,97,118,101]⟩
def tY:ap:=⟨#[102,111,114,107]⟩
def De:ap:=⟨#[98,97,100]⟩
def wA:ap:=⟨#[97]⟩
def PM:au×Nat:=(none,0)
def Kd(N:Nat):Tm (N+1):=bW 6 0 N
def MZ(a:Int)(N:Nat):Tm (N+1):=bW 1 a N
def Kg(a:Int)(N:Nat):Tm (N+1):=bW 5 a N
def fY:List (Bh 2):=[(re,PM,[
 ((Kg 0 1,dr 1 [br QW 0,Kg 1 0],dr 1 [br xd 0,Kg 0 0,Kg 1 0]),PM,[]),
 ((Kg 0 1,dr 1 [br QV 0,Kg 1 0],Kg 0 1),PM,[(1,(Kg 1 1,dr 1 [br Ql 0,Kg 0 0]),.empty,0)]),
 ((Kd 1,br tY 1,MZ 1 1),PM,[(2,(zT 1,MZ 0 1),re,0),(3,(Kg 0 1,zT 1),.empty,0),(1,(Kg 0 1,dr 1 [br QW 0,MZ 7 0]),.empty,0)]),
 ((Kd 1,br mu 1,MZ 0 1),PM,[(4,(zT 1,zT 1),.empty,0)]),
 ((Kd 1,br De 1,dr 1 [br xd 0,br wA 0,br wA 0]),PM,[])])]
def vX:Tc:=dr 12 [br QW 11,MZ 3 11]
def GU:Sy:=(Mw.start 1 fY 60 re 1 (MZ 2 0)).1
theorem Kj:mF 1 fY=0:=by kernel_rfl
theorem GV:(Mw.start 1 fY 60 re 1 (MZ 2 0)).2=0/\GU.last=1:=⟨by kernel_rfl,by kernel_rfl⟩
def Mv:List (Int×Int×Int×Tc):=[(3,1,0,vX),(1,1,0,sE),(3,1,0,br tY 12),(1,1,0,sE),(2,1,2,sE),(1,2,0,sE)]
def P6:List (Int×Int×Int×Tc):=[(3,1,0,br De 12),(1,1,0,sE)]
def Ke(s:Sy)(e:Int×Int×Int×Tc):Sy×Int:=s.do 1 fY 60 e.1 e.2.1 e.2.2.1 13 e.2.2.2
def zJ(s:Sy)(l:List (Int×Int×Int×Tc)):Sy:=l.foldl (λs e=>(Ke s e).1) s
def DK:Sy->List (Int×Int×Int×Tc)->Bool
 | _,[]=>true
 | s,e::l=>(Ke s e).2==0 && DK (Ke s e).1 l
theorem Kh:DK GU Mv=true:=by kernel_rfl
theorem M1:DK (zJ GU Mv) P6=true:=by kernel_rfl
theorem O6:(zJ GU Mv).ps.map (·.1)=[1,2]:=by kernel_rfl
theorem Ki:((zJ GU Mv).get 2).map (λv=>(v.1,v.2.1.1))=some (re,1,7,.empty):=by kernel_rfl
theorem M0:(zJ (zJ GU Mv) P6).ps=[]:=by kernel_rfl
def vq(c:UInt8):Bool:=decide (48<=(c.toNat:Int)) && decide ((c.toNat:Int)<=57)
def jd(l:List UInt8):Bool:=l.all vq
def lV(l:List UInt8):Int:=l.foldl (λn c=>10*n+((c.toNat:Int)-48)) 0
def fi(s:ap)(m:Int):Bool:=decide (1<=(s.size:Int)) && decide ((s.size:Int)<=m) && !(s.data.toList[0]?==some 48 && decide (1<(s.size:Int))) && jd s.data.toList
theorem vt(s:ap)(k:Nat)(a:k<s.size):jd (s.data.toList.take (k+1))=(jd (s.data.toList.take k) && vq s[k]):=by
 rw[tm s k a];simp[jd]
theorem Ij(s:ap)(k:Nat)(a:k<s.size):lV (s.data.toList.take (k+1))=10*lV (s.data.toList.take k)+((s[k].toNat:Int)-48):=by
 rw[tm s k a];simp[lV]
theorem Em(l:List UInt8):jd l=true->0<=lV l/\lV l<10 ^ l.length:=by
 suffices g:∀(l:List UInt8)(a:Int)(b:Nat),jd l=true->0<=a->a<10 ^ b->0<=l.foldl (λn c=>10*n+((c.toNat:Int)-48)) a/\l.foldl (λn c=>10*n+((c.toNat:Int)-48)) a<10 ^ (b+l.length) by
  intro d;have:=g l 0 0 d (by omega) (by simp);simpa [lV]using this
 intro l
 induction l with
 | nil=>intro a b _ e f;exact⟨e,f⟩
 | cons c l ih=>
  intro a b d e f;simp only[jd,jz,aK,vq,cr]at d;have:=ih (10*a+((c.toNat:Int)-48)) (b+1) (by simp only[jd];exact d.2) (by omega) (by rw[Int.pow_succ];omega);simp only[gP,bu];rw[show b+(l.length+1)=b+1+l.length by omega];exact this
theorem En(s:ap)(k:Nat)(d:k<=14)(c:jd (s.data.toList.take k)=true):0<=lV (s.data.toList.take k)/\lV (s.data.toList.take k)<100000000000000:=by
 have a:=Em _ c;refine⟨a.1,Int.lt_of_lt_of_le a.2 ?_⟩;have:(10:Int) ^ (s.data.toList.take k).length<=10 ^ 14:=by
  have b:(10:Nat) ^ (s.data.toList.take k).length<=10 ^ 14:=Nat.pow_le_pow_right (by omega) (by simp;omega)
  exact_mod_cast b
 simpa using this
theorem xR(s:ap)(k:Nat)(a:k<s.size)(c:vq s[k]=false):jd s.data.toList=false:=by
 have b:jd s.data.toList=(jd (s.data.toList.take (k+1)) && jd (s.data.toList.drop (k+1))):=by
  conv=>lhs;rw[<-iu (k+1) s.data.toList]
  simp only[jd,kV]
 rw[b,vt s k a,c];simp
theorem rN(s:ap)(a:0<s.size):s.data.toList[0]?=some s[0]:=by
 rw[aN (by simpa using a)];rfl
theorem Ph(s:ap)(e:0<s.size)(f:s[0]=48):(s.toList==[48])=decide (¬1<s.size):=by
 rw[cF];have b:=rN s e;rw[f]at b;have a:s.data.toList.length=s.size:=by simp
 cases d:s.data.toList with
 | nil=>rw[d]at a;simp at a;omega
 | cons c l=>
  rw[d]at b a;simp at b;subst b;cases l with
  | nil=>simp at a;simp;omega
  | cons g l=>simp at a;simp;omega
theorem CO{s:ap}(b:0<s.size):s.toList.isEmpty=false:=by
 rw[cF,List.isEmpty_eq_false_iff];intro a;have:s.data.toList.length=s.size:=by simp
 rw[a]at this;simp at this;omega
theorem CN{s:ap}(a:¬0<s.size):s.toList.isEmpty=true:=by
 rw[cF,List.isEmpty_iff];apply bI;have:s.data.toList.length=s.size:=by simp
 omega
theorem kw{c:UInt8}{k:Nat}{d:UInt8}(b:d.toNat=k)(a:¬c=d):¬((c.toNat:Int)=k):=λe=>a (UInt8.toNat.inj (by omega))
def OR(s:ap)(m:Int)(e:Ending):Prop:=
 ∃(a:Int)(b:Bool),e=.returned (.tuple #[ab a,.bool b])/\Hid (b=fi s m/\0<=a/\a<100000000000000/\(b=true->a=lV s.data.toList))
theorem oJ(s:ap)(m:Int)(w:ag)(E:s.size<=9223372036854775807)(D:m<=13):ao 146 #[af s,ab m] w λe w'=>OR s m e/\w'=w:=by
 go_enter func146,ntmps146;by_cases g:0<s.size
 ·have n:=CO g;have A:(s.toList=[])=False:=by simpa using n
  by_cases l:(s.size:Int)<=m
  ·have z:decide (m<(s.size:Int))=false:=by simp;omega
   have i:s[0]=48->(s.toList==[48])=decide (¬1<s.size):=Ph s g;by_cases c:s[0]=48/\1<s.size
   ·obtain⟨c,a⟩:=c;have j:(s.toList==[48])=false:=by rw[i c];simp;omega
    have b:Hid (fi s m=false):=by simp[Hid,fi,rN s g,c];omega
    clear i;go_wp2_with fail
    all_goals go_ret2
    all_goals exact⟨⟨0,false,rfl,b.symm,by omega,by omega,by simp⟩,rfl⟩
   ·have b:Hid (fi s m=jd s.data.toList):=by
      simp only[Hid,fi];rw[rN s g];by_cases a:s[0]=48
      ·have:¬1<s.size:=λf=>c ⟨a,f⟩;simp[l];omega
      ·simp[l,a];omega
    have j:(s[0]=48/\(s.toList==[48])=true)\/¬((s[0].toNat:Int)=48):=by
     by_cases a:s[0]=48
     ·have B:¬1<s.size:=λf=>c ⟨a,f⟩;exact aj ⟨a,by rw[i a];simp;omega⟩
     ·exact ak (kw (k:=48) rfl a)
    clear i c;rcases j with⟨a,j⟩|j
    all_goals
     go_wp2_with fail
     go_loop [6,7] (λt p=>∃k:Nat,∃h:Int,k<=s.size/\p=ab k/\t=ab h/\Hid (h=lV (s.data.toList.take k)/\jd (s.data.toList.take k)=true)) (λ_ p=>s.size-(intOf p).toNat)
     case atStart=>exact⟨0,0,aM _,rfl,rfl,by simp[Hid,jd,lV]⟩
     case round=>
      obtain⟨k,h,C,rfl,rfl,d⟩:=hrel;have r:=En s k (by omega) d.2;rw[<-d.out.1]at r;obtain⟨F,G⟩:=r;by_cases o:k<s.size
      ·have x:=aq (vt s k o);have y:=aq (Ij s k o);have q:Hid (vq s[k]=false->false=fi s m):=λf=>by rw[b.out,xR s k o f]
       by_cases d1:48<=(s[k].toNat:Int)
       ·by_cases d2:(s[k].toNat:Int)<=57
        ·go_wp2_with fail
         go_round
         case rel=>exact⟨k+1,10*h+((s[k].toNat:Int)-48),by omega,by go_num,by go_num,by rw[y.out,d.out.1],by rw[x.out,d.out.2];simp[vq,d1,d2]⟩
         case measure=>simp[intOf];omega
        ·go_wp2_with fail
         go_ret2
         exact⟨⟨0,false,rfl,q (by simp[vq,d2]),by omega,by omega,by simp⟩,rfl⟩
       ·go_wp2_with fail
        go_ret2
        exact⟨⟨0,false,rfl,q (by simp[vq];omega),by omega,by omega,by simp⟩,rfl⟩
      ·go_wp2_with fail
       go_ret2
       have u:s.data.toList.take k=s.data.toList:=bA (by simp;omega);refine⟨⟨h,true,rfl,?_,by omega,by omega,λ_=>?_⟩,rfl⟩
       ·rw[b.out,<-u,d.out.2]
       ·rw[d.out.1,u]
  ·have z:m<(s.size:Int):=by omega
   have b:Hid (fi s m=false):=by simp[Hid,fi,l]
   go_wp2_with fail
   all_goals go_ret2
   all_goals exact⟨⟨0,false,rfl,b.symm,by omega,by omega,by simp⟩,rfl⟩
 ·have n:=CN g;have A:(s.toList=[])=True:=by simpa using n
  have v:s.size=0:=by omega
  have b:Hid (fi s m=false):=by simp[Hid,fi,v]
  clear v;go_wp2_with fail
  all_goals go_ret2
  all_goals exact⟨⟨0,false,rfl,b.symm,by omega,by omega,by simp⟩,rfl⟩
def iJ(s:ap):ap:=s.extract 1 s.size
def fQ(s:ap):Bool:=
 if s.data.toList[0]?=some 35 then fi (iJ s) 2
 else if s.data.toList[0]?=some 36 then fi (iJ s) 2
 else if s.data.toList[0]?=some 45 then fi (iJ s) 13 && !(lV (iJ s).data.toList==0)
 else if s.toList==[95]then true
 else if fi s 13 then true
 else decide (0<s.size) && gA s.data.toList
def lM(s:ap):Int×Int×ap:=
 if s.data.toList[0]?=some 35 then (3,lV (iJ s).data.toList,⟨#[]⟩)
 else if s.data.toList[0]?=some 36 then (5,lV (iJ s).data.toList,⟨#[]⟩)
 else if s.data.toList[0]?=some 45 then (1,-lV (iJ s).data.toList,⟨#[]⟩)
 else if s.toList==[95]then (6,0,⟨#[]⟩)
 else if fi s 13 then (1,lV s.data.toList,⟨#[]⟩)
 else (2,0,s)
def MA(s:ap)(e:Ending):Prop:=
 ∃(k a:Int)(t:ap)(b:Bool),e=.returned (.tuple #[.agg #[ab k,ab a,af t,ae none 0 0],.bool b])/\Hid (b=fQ s/\(b=true->(k,a,t)=lM s)/\t.size<=s.size/\dI k/\dI a)
theorem E6(s:ap):(iJ s).size<=s.size:=by simp[iJ]
def OP(k:Int)(s:ap)(e:Ending):Prop:=
 ∃(a:Int)(b:Bool),e=.returned (.tuple #[.agg #[ab k,ab a,af ⟨#[]⟩,ae none 0 0],.bool b])/\Hid (b=fi s 2/\0<=a/\a<100000000000000/\(b=true->a=lV s.data.toList))
theorem rX(k:Int)(s:ap)(w:ag)(c:s.size<=9223372036854775807):ao 145 #[ab k,af s] w λe w'=>OP k s e/\am w w':=by
 go_enter func145,ntmps145;go_wp2_with (go_at_call 146;refine(oJ _ _ _ c (by omega)).mono ?_;rintro e w' ⟨⟨v,b,rfl,a⟩,rfl⟩);exact ay (v:=.tuple #[.agg #[ab k,ab v,af ⟨#[]⟩,ae none 0 0],.bool b]) (by simp[results,results145,go_sem]) rfl ⟨⟨v,b,rfl,a⟩,by go_grown⟩
theorem GR(s:ap)(w:ag)(b:s.size<=2048):ao 63 #[af s] w λe w'=>e=.returned (af s)/\am w w':=by
 go_enter func63,ntmps63;go_wp2_with (go_at_call 98;refine(Tryz.stringslite_Clone s w (by omega)).mono ?_;rintro e w' ⟨rfl,a⟩)
 go_ret
 exact⟨rfl,a⟩
theorem G0(s:ap)(a:0<s.size)(b:vq s[0]=false)(m:Int):fi s m=false:=by simp[fi,xR s 0 a b]
theorem Hz(s:ap)(a:0<s.size)(c:Aa s[0]=false):gA s.data.toList=false:=by
 have b:gA s.data.toList=(gA (s.data.toList.take 1) && gA (s.data.toList.drop 1)):=by
  conv=>lhs;rw[<-iu 1 s.data.toList]
  simp only[gA,kV]
 rw[b,vR s 0 a,c];simp
theorem OZ(s:ap)(d:0<s.size)(b:¬s[0]=95):(s.toList==[95])=false:=by
 rw[cF];have a:=rN s d;cases hl:s.data.toList with
 | nil=>rfl
 | cons c l=>
  rw[hl]at a;simp at a;rw[<-a]at b;simp[b]
def pV(k a:Int)(t:ap):ar:=.agg #[ab k,ab a,af t,ae none 0 0]
theorem dH{a:Int}(b: -100000000000000<=a)(c:a<=100000000000000):dI a:=⟨by omega,by omega⟩
theorem zt{w w':ag}{v0 v1 v2 v3:ar}{t:TypeId}(c:Below (w.alloc (.cells #[v0,v1,v2,v3] t)).heap.size (w.alloc (.cells #[v0,v1,v2,v3] t)) w'):(ah w' w.heap.size 0 v0/\ah w' w.heap.size 1 v1/\ah w' w.heap.size 2 v2/\ah w' w.heap.size 3 v3)/\ (w'.frozen? ⟨w.heap.size,0,none⟩=false/\w'.frozen? ⟨w.heap.size,1,none⟩=false/\w'.frozen? ⟨w.heap.size,2,none⟩=false/\w'.frozen? ⟨w.heap.size,3,none⟩=false):=by
 have a:=λo=>c.cell (p:=⟨w.heap.size,o,none⟩) (by simp);have b:=λo=>c.frozen (p:=⟨w.heap.size,o,none⟩) (by simp);exact⟨⟨(a 0).trans (by simp[go_sem]),(a 1).trans (by simp[go_sem]),(a 2).trans (by simp[go_sem]),(a 3).trans (by simp[go_sem])⟩,(b 0).trans (by simp[go_sem]),(b 1).trans (by simp[go_sem]),(b 2).trans (by simp[go_sem]),(b 3).trans (by simp[go_sem])⟩
theorem DX{w w':ag}{o:Obj}(e:Below (w.alloc o).heap.size (w.alloc o) w')(a b c d:ar):am w ((((w'.setCell ⟨w.heap.size,0,none⟩ a).setCell ⟨w.heap.size,1,none⟩ b).setCell ⟨w.heap.size,2,none⟩ c).setCell ⟨w.heap.size,3,none⟩ d):=by
 have f:am w w':=(aS _ _).trans (e.mono (by simp))
 go_grown
theorem IG(s:ap)(w:ag)(y:s.size<=2048):ao 109 #[af s] w λe w'=>MA s e/\am w w':=by
 have D:=E6 s;by_cases g:0<s.size
 ·have p:=CO g;have u:(s.toList=[])=False:=by simpa using p
  have i:=aq (rN s g);have C:(1:Int)<=s.size:=by omega
  by_cases j:s[0]=95
  ·have c:Hid (fQ s=(s.toList==[95])/\((s.toList==[95])=true->lM s=(6,0,⟨#[]⟩))):=by
     simp only[Hid,fQ,lM,i.out,j,G0 s g (by simp[vq,j]) 13,Hz s g (by simp[Aa,j])];cases h:(s.toList==[95])<;>simp
   go_enter func109,ntmps109;go_wp2_with fail;exact ay (v:=.tuple #[pV 6 0 ⟨#[]⟩,.bool (s.toList==[95])]) (by simp[results,results109,go_sem,pV]) rfl ⟨⟨6,0,⟨#[]⟩,_,rfl,c.1.symm,λh=>(c.2 h).symm,aM _,dH (by omega) (by omega),dH (by omega) (by omega)⟩,by go_grown⟩
  ·have d1:=kw (k:=95) (d:=95) rfl j;by_cases q:s[0]=35
   ·have c:Hid (fQ s=fi (iJ s) 2/\lM s=(3,lV (iJ s).data.toList,⟨#[]⟩)):=by
      simp[Hid,fQ,lM,i.out,q]
    go_enter func109,ntmps109;go_wp2_with (go_at_call 145;refine(rX 3 (iJ s) _ (by omega)).mono ?_;rintro e w' ⟨⟨v,b,rfl,a⟩,f⟩;obtain⟨⟨l,m,n,o⟩,f0,f1,f2,f3⟩:=zt f;have HB:=aq (DX f);clear f);exact ay (v:=.tuple #[pV 3 v ⟨#[]⟩,.bool b]) (by simp[results,results109,go_sem,pV,l,m,n,o]) rfl ⟨⟨3,v,⟨#[]⟩,_,rfl,by rw[c.out.1,a.out.1],λh=>by rw[c.out.2,a.out.2.2.2 h],aM _,dH (by omega) (by omega),dH (by have:=a.2.1;omega) (by have:=a.2.2.1;omega)⟩,HB _ _ _ _⟩
   ·have d2:=kw (k:=35) (d:=35) rfl q;by_cases r:s[0]=36
    ·have c:Hid (fQ s=fi (iJ s) 2/\lM s=(5,lV (iJ s).data.toList,⟨#[]⟩)):=by
       simp[Hid,fQ,lM,i.out,r]
     go_enter func109,ntmps109;go_wp2_with (go_at_call 145;refine(rX 5 (iJ s) _ (by omega)).mono ?_;rintro e w' ⟨⟨v,b,rfl,a⟩,f⟩;obtain⟨⟨l,m,n,o⟩,f0,f1,f2,f3⟩:=zt f;have HB:=aq (DX f);clear f);exact ay (v:=.tuple #[pV 5 v ⟨#[]⟩,.bool b]) (by simp[results,results109,go_sem,pV,l,m,n,o]) rfl ⟨⟨5,v,⟨#[]⟩,_,rfl,by rw[c.out.1,a.out.1],λh=>by rw[c.out.2,a.out.2.2.2 h],aM _,dH (by omega) (by omega),dH (by have:=a.2.1;omega) (by have:=a.2.2.1;omega)⟩,HB _ _ _ _⟩
    ·have d3:=kw (k:=36) (d:=36) rfl r;by_cases t:s[0]=45
     ·have c:Hid (fQ s=(fi (iJ s) 13 && !(lV (iJ s).data.toList==0))/\lM s=(1,-lV (iJ s).data.toList,⟨#[]⟩)):=by
        simp[Hid,fQ,lM,i.out,t]
      go_enter func109,ntmps109;go_wp2_with (go_at_call 146;refine(oJ (iJ s) 13 _ (by omega) (by omega)).mono ?_;rintro e w' ⟨⟨v,b,rfl,a⟩,rfl⟩;obtain⟨A,B⟩:=(⟨a.2.1,a.2.2.1⟩:0<=v/\v<100000000000000);cases b)
      ·exact ay (v:=.tuple #[pV 1 (-v) ⟨#[]⟩,.bool false]) (by simp[results,results109,go_sem,pV]) rfl ⟨⟨1,-v,⟨#[]⟩,_,rfl,by rw[c.out.1,<-a.out.1];rfl,by simp,aM _,dH (by omega) (by omega),dH (by omega) (by omega)⟩,by go_grown⟩
      ·exact ay (v:=.tuple #[pV 1 (-v) ⟨#[]⟩,.bool (v !=0)]) (by simp[results,results109,go_sem,pV]) rfl ⟨⟨1,-v,⟨#[]⟩,_,rfl,by rw[c.out.1,<-a.out.1,<-a.out.2.2.2 (by trivial)];simp[bne],λ_=>by rw[c.out.2,a.out.2.2.2 (by trivial)],aM _,dH (by omega) (by omega),dH (by omega) (by omega)⟩,by go_grown⟩
     ·have d4:=kw (k:=45) (d:=45) rfl t;have c:Hid (fQ s=(fi s 13 || gA s.data.toList)/\(lM s=if fi s 13=true then (1,lV s.data.toList,⟨#[]⟩)else (2,0,s))):=by
       simp only[Hid,fQ,lM,i.out,OZ s g j];simp[q,r,t];cases fi s 13<;>simp[g]
      go_enter func109,ntmps109
      go_wp2_with (first
       | (go_at_call 146;refine(oJ s 13 _ (by omega) (by omega)).mono ?_;rintro e w' ⟨⟨v,b,rfl,a⟩,rfl⟩;obtain⟨A,B⟩:=(⟨a.2.1,a.2.2.1⟩:0<=v/\v<100000000000000);cases b)
       | (go_at_call 63;refine(GR s _ y).mono ?_;rintro e E ⟨rfl,f⟩;obtain⟨⟨l,m,n,o⟩,f0,f1,f2,f3⟩:=zt f;have HB:=aq (DX f);clear f)
       | (go_at_call 110;refine(tI s _ (by omega)).mono ?_;rintro e F ⟨rfl,rfl⟩))
      ·exact ay (v:=.tuple #[pV 2 0 s,.bool (gA s.data.toList)]) (by simp[results,results109,go_sem,pV,l,m,n,o]) rfl ⟨⟨2,0,s,_,rfl,by rw[c.out.1,<-a.out.1];rfl,λ_=>by rw[c.out.2,<-a.out.1];rfl,av _,dH (by omega) (by omega),dH (by omega) (by omega)⟩,HB _ _ _ _⟩
      ·exact ay (v:=.tuple #[pV 1 v ⟨#[]⟩,.bool true]) (by simp[results,results109,go_sem,pV]) rfl ⟨⟨1,v,⟨#[]⟩,_,rfl,by rw[c.out.1,<-a.out.1];rfl,λ_=>by rw[c.out.2,<-a.out.1,a.out.2.2.2 (by trivial)];rfl,aM _,dH (by omega) (by omega),dH (by omega) (by omega)⟩,by go_grown⟩
 ·have p:=CN g;have u:(s.toList=[])=True:=by simpa using p
  have c:Hid (fQ s=false):=by
   have z:s.size=0:=by omega
   have x:s.data.toList=[]:=by rw[<-cF];simpa using p
   simp[Hid,fQ,cF,fi,x,z]
  go_enter func109,ntmps109;go_wp2_with fail;exact ay (v:=.tuple #[pV 0 0 ⟨#[]⟩,.bool false]) (by simp[results,results109,go_sem,pV]) rfl ⟨⟨0,0,⟨#[]⟩,_,rfl,c.symm,by simp,aM _,dH (by omega) (by omega),dH (by omega) (by omega)⟩,by go_grown⟩
def O2(c:UInt8):Bool:=c==32
def zO(c:UInt8):Bool:=c==32 || c==40 || c==41
def ge(p:UInt8->Bool)(s:ap)(i:Nat):Nat:=i+((s.data.toList.drop i).takeWhile p).length
theorem FK(s:ap)(k:Nat)(a:k<s.size):s.data.toList.drop k=s[k]::s.data.toList.drop (k+1):=by
 rw[eS (by simpa using a)];rfl
theorem yK{p:UInt8->Bool}{s:ap}{k:Nat}(a:k<s.size)(b:p s[k]=true):ge p s (k+1)=ge p s k:=by
 unfold ge;rw[FK s k a,List.takeWhile_cons,if_pos b,bu];omega
theorem yM{p:UInt8->Bool}{s:ap}{k:Nat}(a:k<s.size)(b:p s[k]=false):ge p s k=k:=by
 unfold ge;rw[FK s k a,List.takeWhile_cons,if_neg (by simp[b])];rfl
theorem CP{p:UInt8->Bool}{s:ap}{k:Nat}(a:¬k<s.size):ge p s k=k:=by
 unfold ge;rw[pJ (by simp;omega)];rfl
theorem AC(p:UInt8->Bool)(s:ap)(k:Nat):k<=ge p s k:=iv _ _
theorem Gj(p:UInt8->Bool)(s:ap)(k:Nat)(a:k<=s.size):ge p s k<=s.size:=by
 unfold ge;have b:=(List.takeWhile_sublist (l:=s.data.toList.drop k) p).length_le;have c:(s.data.toList.drop k).length=s.size-k:=by simp
 omega
def dV(s:ap)(i:Nat):Nat:=ge O2 s i
def eO(s:ap)(i:Nat):Nat:=if ge (λc=> !zO c) s (dV s i)=dV s i/\dV s i<s.size then dV s i+1 else ge (λc=> !zO c) s (dV s i)
theorem nj(s:ap)(i:Nat):i<=dV s i:=AC _ _ _
theorem Dh(s:ap)(i:Nat)(a:i<=s.size):dV s i<=s.size:=Gj _ _ _ a
theorem Di(s:ap)(i:Nat):dV s i<=eO s i:=by
 unfold eO;have:=AC (λc=> !zO c) s (dV s i);split<;>omega
theorem Dj(s:ap)(i:Nat)(a:i<=s.size):eO s i<=s.size:=by
 unfold eO;have:=Gj (λc=> !zO c) s (dV s i) (Dh s i a);split<;>omega
theorem sC(s:ap)(i:Nat)(a:dV s i<s.size):dV s i<eO s i:=by
 unfold eO;have:=AC (λc=> !zO c) s (dV s i);split<;>omega
theorem Jw(s:ap)(i:Nat)(a:i<=s.size)(b:¬dV s i<s.size):dV s i=s.size/\eO s i=s.size:=by
 have c:=Dh s i a;have d:=Dj s i a;have e:=Di s i;omega
def Rd(r:Nat)(s:ap)(b e:Nat)(w:ag):Prop:=w.heap[r]?=some (.cells #[af s,ab b,ab e] 146)
theorem Rd.cells{r:Nat}{s:ap}{b e:Nat}{w:ag}(a:Rd r s b e w):(ah w r 0 (af s)/\ah w r 1 (ab b)/\ah w r 2 (ab e))/\w.frozen? ⟨r,1,none⟩=false/\w.frozen? ⟨r,2,none⟩=false:=by
 unfold Rd at a;exact⟨⟨by simp[World.cell?,a],by simp[World.cell?,a],by simp[World.cell?,a]⟩,by simp[World.frozen?,a],by simp[World.frozen?,a]⟩
theorem Rd.set1{r:Nat}{s:ap}{b e:Nat}{w:ag}(a:Rd r s b e w)(k:Nat):Rd r s k e (w.setCell ⟨r,1,none⟩ (ab k)):=by
 unfold Rd at*;simp[World.setCell,bQ,a]
theorem Rd.set2{r:Nat}{s:ap}{b e:Nat}{w:ag}(a:Rd r s b e w)(k:Nat):Rd r s b k (w.setCell ⟨r,2,none⟩ (ab k)):=by
 unfold Rd at*;simp[World.setCell,bQ,a]
theorem Rd.drew{r:Nat}{s:ap}{b e:Nat}{w:ag}(a:Rd r s b e w)(n:Nat):Rd r s b e (w.drewN n):=a
theorem Rd.lt{r:Nat}{s:ap}{b e:Nat}{w:ag}(a:Rd r s b e w):r<w.heap.size:=(aI.1 a).1
theorem mW(w:ag)(r o:Nat)(v:ar):w.grownBy (w.setCell ⟨r,o,none⟩ v) (some r):=
 ⟨rfl,rfl,rfl,by simp[World.setCell],λk _ b=>fm w _ v k (λa=>b (by rw[a]))⟩
theorem eW(w:ag)(n:Nat)(q:Option Nat):w.grownBy (w.drewN n) q:=⟨rfl,rfl,rfl,av _,λ_ _ _=>rfl⟩
theorem cd{w w1 w2:ag}{q:Option Nat}(a:w.grownBy w1 q)(k:w1.grownBy w2 q):w.grownBy w2 q:=
 ⟨k.os.trans a.os,k.tape.trans a.tape,k.output.trans a.output,aF a.size k.size,λd b c=>(k.block d (aW b a.size) c).trans (a.block d b c)⟩
theorem Kp(c:UInt8)(w:ag):ao 107 #[.int .u8 c.toNat] w λe w'=>e=.returned (.bool (zO c))/\w'=w:=by
 by_cases a:c=32
 ·subst a;go_enter func107,ntmps107;go_wp2_with fail
  all_goals go_ret
  all_goals exact⟨rfl,rfl⟩
 ·have d1:=kw (k:=32) (d:=32) rfl a;by_cases b:c=40
  ·subst b;go_enter func107,ntmps107;go_wp2_with fail
   all_goals go_ret
   all_goals exact⟨rfl,rfl⟩
  ·have d2:=kw (k:=40) (d:=40) rfl b;by_cases f:c=41
   ·subst f;go_enter func107,ntmps107;go_wp2_with fail
    all_goals go_ret
    all_goals exact⟨rfl,rfl⟩
   ·have d3:=kw (k:=41) (d:=41) rfl f;go_enter func107,ntmps107;go_wp2_with fail
    all_goals go_ret
    all_goals exact⟨bY (by rw[show zO c=false by simp[zO,a,b,f]];simp;omega),rfl⟩
theorem Ml(r:Nat)(s:ap)(b e:Nat)(w:ag)(a:Rd r s b e w)(h:b<=e)(j:e<=s.size):ao 70 #[aH r] w λc w'=>c=.returned (af (s.extract b e))/\∃n,w'=w.drewN n:=by
 obtain⟨⟨d,f,g⟩,f1,f2⟩:=a.cells;clear a;have i:(b:Int)<=e:=by omega
 have k:(e:Int)<=s.size:=by omega
 go_enter func70,ntmps70;go_wp2_with fail
 go_quiet (fail)
 go_wp2_with fail
 go_ret
 exact⟨by simp,_,rfl⟩
theorem qI{w w1 w2:ag}{q:Option Nat}(a:w.grownBy w1 q)(c:w2.os=w1.os)(d:w2.tape=w1.tape)(e:w2.output=w1.output)(b:w2.heap=w1.heap):w.grownBy w2 q:=
 ⟨c.trans a.os,d.trans a.tape,e.trans a.output,by rw[b];exact a.size,λk f g=>by rw[b];exact a.block k f g⟩
theorem FL(c:UInt8)(w:ag)(b:Bool)(a:zO c=b):ao 107 #[.int .u8 c.toNat] w λe w'=>e=.returned (.bool b)/\w'=w:=by
 rw[<-a];exact Kp c w
theorem rV(r:Nat)(s:ap)(F g:Nat)(w:ag)(e:Rd r s F g w)(J:g<=s.size)(V:s.size<=2048):ao 68 #[aH r] w λG w'=>G=.returned (.tuple #[])/\Hid (Rd r s (dV s g) (eO s g) w'/\w.grownBy w' (some r)):=by
 obtain⟨⟨B,v,x⟩,f1,f2⟩:=e.cells;have z:=aq (⟨e.set1 g,mW w r 1 (ab g)⟩:_/\_);clear e;go_enter func68,ntmps68;go_wp2_with fail;go_loopw [] (λwr=>∃k:Nat,k<=s.size/\Hid (Rd r s k g wr/\w.grownBy wr (some r)/\ge O2 s k=dV s g)/\True) (λwr=>s.size-(intOf ((wr.cell? ⟨r,1,none⟩).getD undef)).toNat)
 case atStart=>exact⟨g,J,⟨z.1,z.2,rfl⟩,trivial⟩
 case round=>
  obtain⟨k,K,j,_⟩:=hrel;obtain⟨⟨B,v,x⟩,f1,f2⟩:=j.out.1.cells;by_cases h:∃e:k<s.size,s[k]=32
  ·obtain⟨b,H⟩:=h;have L:(k:Int)<s.size:=by omega
   have C:decide ((k:Int)<s.size)=true:=by simp;omega
   have u:=aq (yK (p:=O2) b (by simp[O2,H]));go_wp2_with fail
   go_quiet (fail)
   go_wp2_with fail;go_roundw
   case rel=>exact⟨k+1,by omega,⟨(j.1.drew nq).set1 (k+1),cd j.2.1 (cd (eW wr nq _) (mW _ _ _ _)),by rw[u.out];exact j.2.2⟩,trivial⟩
   case measure=>simp[go_sem,v,intOf];omega
  ·have i:Hid (dV s g=k):=by
     rw[<-j.out.2.2];by_cases b:k<s.size
     ·exact yM (p:=O2) b (by simp[O2];exact λe=>h ⟨b,e⟩)
     ·exact CP (p:=O2) b
   have I:((¬k<s.size)/\decide ((k:Int)<s.size)=false)\/((k:Int)<s.size/\decide ((k:Int)<s.size)=true/\∃e:k<s.size,((s[k].toNat:Int)==32)=false):=by
    by_cases b:k<s.size
    ·have S:=kw (k:=32) (d:=32) rfl (λe=>h ⟨b,e⟩);exact ak ⟨by omega,by simp;omega,b,by simp;omega⟩
    ·exact aj ⟨b,by simp;omega⟩
   clear h;rcases I with⟨b,C⟩|⟨L,C,b,T⟩
   all_goals
    go_wp2_with fail
    go_quiet (fail)
    have A:=aq (show Rd r s k k ((wr.drewN nq).setCell ⟨r,2,none⟩ (ab k))/\w.grownBy ((wr.drewN nq).setCell ⟨r,2,none⟩ (ab k)) (some r)from⟨(j.1.drew nq).set2 k,cd j.2.1 (cd (eW wr nq _) (mW _ _ _ _))⟩);go_wp2_with fail;go_loopw [] (λq=>∃a:Nat,a<=s.size/\k<=a/\Hid (Rd r s k a q/\w.grownBy q (some r)/\ge (λc=> !zO c) s a=ge (λc=> !zO c) s k)/\True) (λq=>s.size-(intOf ((q.cell? ⟨r,2,none⟩).getD undef)).toNat)
    case atStart=>exact⟨k,K,av _,⟨A.1,A.2,rfl⟩,trivial⟩
    case round=>
     obtain⟨a,U,D,f,_⟩:=hrel;obtain⟨⟨B,v,x⟩,f1,f2⟩:=f.out.1.cells;by_cases h:∃e:a<s.size,zO s[a]=false
     ·obtain⟨n,o⟩:=h;have y:k<s.size:=Nat.lt_of_le_of_lt D n
      first|exact absurd y b|skip
      all_goals
       have R:(a:Int)<s.size:=by omega
       have E:decide ((a:Int)<s.size)=true:=by simp;omega
       have u:=aq (yK (p:=λc=> !zO c) n (by simp[o]));go_wp2_with fail
       go_quiet ((go_at_call 107;exact Calls.quiet_of_same (FL s[a] _ _ o)))
       go_wp2_with fail;go_roundw
       case rel=>exact⟨a+1,by omega,by omega,⟨(f.1.drew _).set2 (a+1),cd f.2.1 (cd (eW _ _ _) (mW _ _ _ _)),by rw[u.out];exact f.2.2⟩,trivial⟩
       case measure=>simp[go_sem,x,intOf];omega
     ·have t:Hid (ge (λc=> !zO c) s k=a):=by
        rw[<-f.out.2.2];by_cases b:a<s.size
        ·exact yM (p:=λc=> !zO c) b (by simp;cases e:zO s[a];exact absurd ⟨b,e⟩ h;rfl)
        ·exact CP (p:=λc=> !zO c) b
      have Q:((¬a<s.size)/\decide ((a:Int)<s.size)=false)\/((a:Int)<s.size/\decide ((a:Int)<s.size)=true/\∃e:a<s.size,zO s[a]=true):=by
       by_cases b:a<s.size
       ·exact ak ⟨by omega,by simp;omega,b,by cases e:zO s[a];exact absurd ⟨b,e⟩ h;rfl⟩
       ·exact aj ⟨b,by simp;omega⟩
      clear h;rcases Q with⟨n,E⟩|⟨R,E,n,o⟩
      ·have m:Hid (eO s g=a):=by
         simp only[Hid,eO,i.out,t.out];rw[if_neg (by omega)]
       go_wp2_with fail
       go_quiet (fail)
       go_wp2_with fail;by_cases l:a=k
       ·first|exact absurd (show a<s.size by omega) n|skip
        all_goals
         subst l
         go_quiet (fail)
         go_wp2_with fail
         go_end0
         refine⟨rfl,?_,qI f.2.1 rfl rfl rfl rfl⟩;rw[i.out,m.out];exact f.1
       ·first|exact absurd (show a=k by omega) l|skip
        all_goals
         have M:((a:Int)==k)=false:=by simp;omega
         have N:(a==k)=false:=by simp;omega
         have O:decide (a=k)=false:=by simp;omega
         have P:decide ((a:Int)=k)=false:=by simp;omega
         clear l
         go_quiet (fail)
         go_wp2_with fail
         go_end0
         refine⟨rfl,?_,qI f.2.1 rfl rfl rfl rfl⟩;rw[i.out,m.out];exact f.1
      ·have y:k<s.size:=Nat.lt_of_le_of_lt D n
       first|exact absurd y b|skip
       all_goals
        go_wp2_with fail
        go_quiet ((go_at_call 107;exact Calls.quiet_of_same (FL s[a] _ _ o)))
        go_wp2_with fail;by_cases l:a=k
        ·have m:Hid (eO s g=a+1):=by
           simp only[Hid,eO,i.out,t.out];rw[if_pos ⟨l,by omega⟩];omega
         subst l
         go_quiet (fail)
         go_wp2_with fail
         go_end0
         refine⟨rfl,?_,cd f.2.1 (cd (eW _ _ _) (mW _ _ _ _))⟩;rw[i.out,m.out];exact Rd.set2 f.1 (a+1)
        ·have m:Hid (eO s g=a):=by
           simp only[Hid,eO,i.out,t.out];rw[if_neg (by omega)]
         have M:((a:Int)==k)=false:=by simp;omega
         have N:(a==k)=false:=by simp;omega
         have O:decide (a=k)=false:=by simp;omega
         have P:decide ((a:Int)=k)=false:=by simp;omega
         clear l
         go_quiet (fail)
         go_wp2_with fail
         go_end0
         refine⟨rfl,?_,qI f.2.1 rfl rfl rfl rfl⟩;rw[i.out,m.out];exact f.1
abbrev fT:Type:=Nat×ap
def Du(x:ap):Bool:=x.toList==[40]
def zW(x:ap):Bool:=x.toList==[41]
theorem Ng{x:ap}{c:UInt8}(a:(x.toList==[c])=true):x.data.toList=[c]/\x.size=1:=by
 rw[cF]at a;have b:x.data.toList=[c]:=by simpa using a
 refine⟨b,?_⟩;have:x.data.toList.length=x.size:=by simp
 rw[b]at this;simpa using this.symm
theorem vO{x:ap}(a:zW x=true):fQ x=false/\Du x=false:=by
 obtain⟨b,c⟩:=Ng a;simp[fQ,Du,fi,cF,b,jd,vq,gA,Aa]
def Fs{a:Type}(f:a->List fT->List fT->Prop):List a->List fT->List fT->Prop
 | [],ts,r=>ts=r
 | x::l,ts,r=>∃m,f x ts m/\Fs f l m r
def Is:(n:Nat)->Tm n->List fT->List fT->Prop
 | 0,_,_,_=>False
 | n+1,x,ts,r=>∃t a,ts=t::a/\((Du t.2=false/\fQ t.2=true/\x.1=lM t.2/\x.2.2=[]/\r=a)\/
    (Du t.2=true/\x.1=(4,0,⟨#[]⟩)/\∃c,Fs (Is n) x.2.2 a (c::r)/\zW c.2=true))
theorem Fs.snoc{b:Type}{f:b->List fT->List fT->Prop}{x:b}{r:List fT}:{l:List b}->{a m:List fT}->Fs f l a m->f x m r->Fs f (l++ [x]) a r
 | [],a,m,h,hx=>by
  have e:a=m:=h;subst e;exact⟨r,hx,rfl⟩
 | y::l,a,m,h,hx=>by
  obtain⟨q,c,d⟩:=h;exact⟨q,c,d.snoc hx⟩
theorem Is.head{n:Nat}{x:Tm n}{c r:List fT}(a:Is n x c r):∃t b,c=t::b/\zW t.2=false:=by
 cases n with
 | zero=>exact a.elim
 | succ n=>
  obtain⟨t,b,rfl,a⟩:=a;refine⟨t,b,rfl,?_⟩;cases hc:zW t.2
  ·rfl
  ·have:=vO hc;rcases a with a|a
   ·rw[this.1]at a;exact absurd a.2.1 (by simp)
   ·rw[this.2]at a;exact absurd a.1 (by simp)
theorem Fs.one{n m:Nat}(ih:∀(x:Tm n)(y:Tm m)(d r f:List fT),Is n x d r->Is m y d f->aB n x m y=true/\r=f):(p:List (Tm n))->(q:List (Tm m))->(d:List fT)->(c i:fT)->(r f:List fT)->zW c.2=true->zW i.2=true->Fs (Is n) p d (c::r)->Fs (Is m) q d (i::f)->aG (λa b=>aB n a m b) p q=true/\r=f
 | [],[],d,c,i,r,f,hc,hc',h,h'=>by
  have j:d=c::r:=h;have g:d=i::f:=h';rw[j]at g;injection g with _ e;exact⟨rfl,e⟩
 | [],y::q,d,c,i,r,f,hc,hc',h,h'=>by
  have j:d=c::r:=h;obtain⟨A,k,_⟩:=h';obtain⟨t,C,g,l⟩:=k.head;rw[j]at g;injection g with e _;rw[<-e,hc]at l;exact absurd l (by simp)
 | x::p,[],d,c,i,r,f,hc,hc',h,h'=>by
  have j:d=i::f:=h';obtain⟨A,k,_⟩:=h;obtain⟨t,C,g,l⟩:=k.head;rw[j]at g;injection g with e _;rw[<-e,hc']at l;exact absurd l (by simp)
 | x::p,y::q,d,c,i,r,f,hc,hc',h,h'=>by
  obtain⟨o,k,v⟩:=h;obtain⟨B,w,z⟩:=h';obtain⟨j,g⟩:=ih x y d o B k w;subst g;obtain⟨s,u⟩:=Fs.one ih p q o c i r f hc hc' v z;exact⟨by simp only[aG];rw[j,s];rfl,u⟩
theorem Is.one:(n:Nat)->(m:Nat)->(x:Tm n)->(y:Tm m)->(f r b:List fT)->Is n x f r->Is m y f b->aB n x m y=true/\r=b
 | 0,_,_,_,_,_,_,a,_=>a.elim
 | _+1,0,_,_,_,_,_,_,a=>a.elim
 | n+1,m+1,x,y,f,r,b,a,g=>by
  obtain⟨t,z,rfl,a⟩:=a;obtain⟨t2,A,e,g⟩:=g;injection e with h i;subst h i;rcases a with⟨o,_,l,j,v⟩|⟨o,l,c,j,s⟩
  ·rcases g with⟨_,_,p,k,w⟩|⟨d,_⟩
   ·refine⟨?_,v.trans w.symm⟩;simp only[aB,l,p,j,k,aG];simp
   ·rw[o]at d;exact absurd d (by simp)
  ·rcases g with⟨d,_⟩|⟨_,p,q,k,u⟩
   ·rw[o]at d;exact absurd d (by simp)
   ·obtain⟨h,i⟩:=Fs.one (λx y f r b=>Is.one n m x y f r b) x.2.2 y.2.2 z c q r b s u j k;refine⟨?_,i⟩;simp only[aB,l,p,h];simp
theorem uB:(n:Nat)->(x:Tm n)->(a r:List fT)->Is n x a r->(aC n x).length+r.length<=a.length
 | 0,_,_,_,b=>b.elim
 | n+1,x,a,r,b=>by
  have key:∀(l:List (Tm n))(a r:List fT),Fs (Is n) l a r->(l.flatMap λy=>aC n y).length+r.length<=a.length:=by
   intro l
   induction l with
   | nil=>intro a r b;have f:a=r:=b;subst f;simp
   | cons y l ih=>
    intro a r b;obtain⟨e,g,h⟩:=b;have:=uB n y a e g;have:=ih e r h;simp only[bM,bt];omega
  obtain⟨t,k,rfl,b⟩:=b;simp only[aC,bu];rcases b with⟨o,_,j,d,i⟩|⟨o,j,c,d,m⟩
  ·rw[d,i];simp;omega
  ·have:=key x.2.2 k (c::r) d;simp only[bu]at this;omega
def km(L:Nat):List fT->Nat->Option Nat
 | [],0=>none
 | [],_+1=>some L
 | t::_,0=>some t.1
 | t::ts,d+1=>if Du t.2 then km L ts (d+2)else if zW t.2 then km L ts d else if fQ t.2 then km L ts (d+1)else some t.1
def Dt(L:Nat):List fT->Nat->Option Nat
 | [],_=>some L
 | t::ts,d=>if Du t.2 then km L ts (d+1)else if fQ t.2 then km L ts d else some t.1
def Lo(L:Nat):List fT->Nat
 | []=>L
 | t::_=>t.1
theorem CK(L:Nat)(a:List fT)(d:Nat)(b:∀t c,a=t::c->zW t.2=false):km L a (d+1)=Dt L a (d+1):=by
 cases a with
 | nil=>rfl
 | cons t a=>simp only[km,Dt];rw[b t a rfl];simp
theorem EO(L:Nat)(t:fT)(b:List fT)(d:Nat)(a:zW t.2=true):km L (t::b) (d+1)=km L b d:=by
 simp only[km];rw[(vO a).2,a];simp
theorem yG{c β:Type}(f:c->β->Bool):(p:List c)->(q:List β)->aG f p q=true->p.length=q.length
 | [],[],_=>rfl
 | [],_::_,h=>by simp[aG]at h
 | _::_,[],h=>by simp[aG]at h
 | a::p,b::q,h=>by
  simp only[aG,aK]at h;simp[yG f p q h.2]
theorem Nc{k b f g:Int}{s e:ap}{l d c i:Nat}{a h:au}(j:k=b)(m:f=g)(n:s=e)(o:l=d):cN ((k,f,s),(a,l,c))=cN ((b,g,e),(h,d,i)):=by
 subst j m n o;rfl
theorem tS:(n m:Nat)->(x:Tm n)->(y:Tm m)->aB n x m y=true->ci n x=ci m y/\fP n x=fP m y/\sz n x=sz m y
 | 0,_,_,_,c=>by simp[aB]at c
 | _+1,0,_,_,c=>by simp[aB]at c
 | n+1,m+1,x,y,c=>by
  have key:∀(p:List (Tm n))(q:List (Tm m)),aG (λa b=>aB n a m b) p q=true->
    (p.all λy=>ci n y)=(q.all λy=>ci m y)/\(∀a,p.foldl (λm y=>max m (fP n y)) a=q.foldl (λk y=>max k (fP m y)) a)/\(p.map λy=>1+sz n y).sum=(q.map λy=>1+sz m y).sum:=by
   intro p
   induction p with
   | nil=>
    intro q c;cases q with
    | nil=>simp
    | cons b q=>simp[aG]at c
   | cons a p ih=>
    intro q c;cases q with
    | nil=>simp[aG]at c
    | cons b q=>
     simp only[aG,aK]at c;obtain⟨j,l,o⟩:=tS n m a b c.1;obtain⟨e,f,g⟩:=ih q c.2;refine⟨by simp only[jz,j,e],λv=>?_,by simp only[aV,bO,o,g]⟩;simp only[gP,l];exact f _
  simp only[aB,aK,co]at c;obtain⟨⟨⟨d,r⟩,h⟩,i⟩:=c;obtain⟨e,f,g⟩:=key _ _ i;have t:=yG _ _ _ i;have u:x.1.2.2=y.1.2.2:=by
   rw[cF,cF]at h;exact ByteArray.ext (Array.toList_inj.1 h)
  refine⟨?_,?_,?_⟩
  ·have s:cN (bL n x)=cN (bL m y):=Nc d r u t;simp only[ci,s,d,e]
  ·simp only[fP,d,f]
  ·simp only[sz,d,g]
theorem IU(n m:Nat)(x:Tm n)(y:Tm m)(a:aB n x m y=true):bG n x=bG m y:=by
 obtain⟨b,c,d⟩:=tS n m x y a;rw[<-gM,<-gM];simp only[xD,b,c,d]
def sy:Nat->ap->Nat->List fT
 | 0,_,_=> []
 | f+1,s,i=>if dV s i<s.size then (dV s i,s.extract (dV s i) (eO s i))::sy f s (eO s i)else []
def j9(s:ap)(i:Nat):List fT:=sy (s.size-i) s i
theorem nY(s:ap):(f g i:Nat)->s.size-i<=f->s.size-i<=g->sy f s i=sy g s i
 | 0,0,_,_,_=>rfl
 | 0,g+1,i,h,_=>by
  have:=nj s i;simp only[sy];rw[if_neg (by omega)]
 | f+1,0,i,_,h=>by
  have:=nj s i;simp only[sy];rw[if_neg (by omega)]
 | f+1,g+1,i,h,h'=>by
  simp only[sy];by_cases a:dV s i<s.size
  ·rw[if_pos a,if_pos a];have b:=sC s i a;have c:=nj s i;rw[nY s f g (eO s i) (by omega) (by omega)]
  ·rw[if_neg a,if_neg a]
theorem yU(s:ap)(i:Nat)(a:dV s i<s.size):j9 s i=(dV s i,s.extract (dV s i) (eO s i))::j9 s (eO s i):=by
 have b:=sC s i a;have c:=nj s i;unfold j9;rw[nY s (s.size-i) (s.size-i+1) i (by omega) (by omega)];simp only[sy];rw[if_pos a,nY s (s.size-i) (s.size-eO s i) (eO s i) (by omega) (by omega)]
theorem wS(s:ap)(i:Nat)(a:¬dV s i<s.size):j9 s i=[]:=by
 unfold j9;rw[nY s (s.size-i) (s.size-i+1) i (by omega) (by omega)];simp only[sy];rw[if_neg a]
theorem mr(s:ap):(f i:Nat)->s.size-i<=f->(j9 s i).length<=s.size-i
 | 0,i,h=>by
  have:=nj s i;rw[wS s i (by omega)];simp
 | f+1,i,h=>by
  by_cases a:dV s i<s.size
  ·have b:=sC s i a;have c:=nj s i;rw[yU s i a];have:=mr s f (eO s i) (by omega);simp only[bu];omega
  ·rw[wS s i a];simp
def At(s:ap)(b e:Nat)(a:List fT):Prop:=
 b<=e/\e<=s.size/\((b=s.size/\a=[])\/(b<e/\a=(b,s.extract b e)::j9 s e))
theorem At.next{s:ap}{i:Nat}(b:i<=s.size):At s (dV s i) (eO s i) (j9 s i):=by
 refine⟨Di s i,Dj s i b,?_⟩;by_cases a:dV s i<s.size
 ·exact ak ⟨sC s i a,yU s i a⟩
 ·exact aj ⟨(Jw s i b a).1,wS s i a⟩
theorem At.pos{s:ap}{b e:Nat}{a:List fT}(c:At s b e a):Lo s.size a=b:=by
 rcases c.2.2 with⟨d,rfl⟩|⟨_,rfl⟩
 ·exact d.symm
 ·rfl
theorem At.nil{s:ap}{b e:Nat}(a:At s b e []):(s.extract b e).toList=[]:=by
 rcases a.2.2 with⟨d,_⟩|⟨_,c⟩
 ·rw[cF];apply bI;have:=a.2.1;simp;omega
 ·exact absurd c (by simp)
theorem At.cons{s:ap}{b e:Nat}{t:fT}{d:List fT}(c:At s b e (t::d)):t=(b,s.extract b e)/\d=j9 s e/\0<(s.extract b e).size:=by
 rcases c.2.2 with⟨_,a⟩|⟨h,a⟩
 ·exact absurd a (by simp)
 ·injection a with f g;refine⟨f,g,?_⟩;have:=c.2.1;simp;omega
-- Sign by sign:what a sign does to the words ahead.
theorem f9{w w1:ag}{q:Option Nat}(a:w.grownBy w1 q)(o:Obj):w.grownBy (w1.alloc o) q:=
 ⟨a.os,a.tape,a.output,by have:=a.size;simp;omega,λk b c=>by
  exact(((aA w1.heap.size w1).alloc (av _) o).block k (aW b a.size)).trans (a.block k b c)⟩
theorem mV{w w1:ag}{q:Option Nat}(a:w.grownBy w1 q){b:Nat}(e:w.heap.size<=b)(o:Nat)(v:ar):w.grownBy (w1.setCell ⟨b,o,none⟩ v) q:=
 ⟨a.os,a.tape,a.output,by simpa [World.setCell]using a.size,λk c d=>(fm w1 ⟨b,o,none⟩ v k (by simp;omega)).trans (a.block k c d)⟩
theorem Ig{w w1 w2:ag}{q:Option Nat}(a:w.grownBy w1 q){g:Option Nat}(k:w1.grownBy w2 g)(f:∀b,g=some b->w.heap.size<=b):w.grownBy w2 q:=
 ⟨k.os.trans a.os,k.tape.trans a.tape,k.output.trans a.output,aF a.size k.size,λc d h=>(k.block c (aW d a.size) (λe=>by have:=f c e.symm;omega)).trans (a.block c d h)⟩
theorem oH{w w1 w2:ag}{q:Option Nat}(a:w.grownBy w1 q)(k:am w1 w2):w.grownBy w2 q:=
 ⟨k.os.trans a.os,k.tape.trans a.tape,k.output.trans a.output,aF a.size k.size,λc b d=>(k.block c (aW b a.size)).trans (a.block c b d)⟩
theorem Rd.block{r:Nat}{s:ap}{b e:Nat}{w w':ag}(a:Rd r s b e w)(k:w'.heap[r]?=w.heap[r]?):Rd r s b e w':=k.trans a
theorem Rd.alloc{r:Nat}{s:ap}{b e:Nat}{w:ag}(a:Rd r s b e w)(o:Obj):Rd r s b e (w.alloc o):=
 a.block (((aA w.heap.size w).alloc (av _) o).block r a.lt)
theorem Rd.far{r:Nat}{s:ap}{b e:Nat}{w:ag}(a:Rd r s b e w){g:Nat}(c:r<g)(o:Nat)(v:ar):Rd r s b e (w.setCell ⟨g,o,none⟩ v):=
 a.block (fm w ⟨g,o,none⟩ v r (by simp;omega))
def ahead(s:ap)(b e:Nat):List fT:=if b<s.size then (b,s.extract b e)::j9 s e else []
def P9(r:Nat)(s:ap)(w:ag):Nat:=(ahead s (intOf ((w.cell? ⟨r,1,none⟩).getD undef)).toNat (intOf ((w.cell? ⟨r,2,none⟩).getD undef)).toNat).length
theorem KZ{r:Nat}{s:ap}{b e:Nat}{w:ag}{a:List fT}(f:Rd r s b e w)(k:At s b e a):P9 r s w=a.length:=by
 obtain⟨⟨h,c,d⟩,f1,f2⟩:=f.cells;simp only[P9,c,d,Option.getD_some,intOf,Int.toNat_natCast,ahead];rcases k.2.2 with⟨g,rfl⟩|⟨g,rfl⟩
 ·rw[if_neg (by omega)]
 ·rw[if_pos (by have:=k.2.1;omega)]
def mx(n:Nat)(s:ap)(r:Nat)(d:List fT)(w w':ag)(v:ar)(ok:Bool):Prop:=
 w.grownBy w' (some r)/\∃b e c,Rd r s b e w'/\At s b e c/\
  (ok=true->(∃x:Tm n,dB n x=v/\Is n x d c/\In w'.heap.size w' n x/\cv (λf=>w.heap.size<=f) n x)/\∀a,Dt s.size d a=km s.size c a)/\
  (ok=false->∀a,Dt s.size d a=some (Lo s.size c))
def MC(n:Nat)(s:ap)(r:Nat)(d:List fT)(w w':ag)(e:Ending):Prop:=
 ∃(k b:Int)(t:ap)(a:au)(l c:Nat)(ok:Bool),e=.returned (.tuple #[.agg #[ab k,ab b,af t,ae a l c],.bool ok])/\
  Hid (mx n s r d w w' (.agg #[ab k,ab b,af t,ae a l c]) ok)
def Oj(n:Nat):Prop:=∀(r:Nat)(s:ap)(b e:Nat)(a:List fT)(w:ag),Rd r s b e w->At s b e a->s.size<=2048->a.length<=n->
 ao 69 #[aH r] w λc w'=>MC (n+1) s r a w w' c
theorem pC(r:Nat)(s:ap)(b e:Nat)(x:ap)(w:ag)(c:Rd r s b e w)(d:b<=e)(f:e<=s.size)(g:s.extract b e=x):ao 70 #[aH r] w λa w'=>a=.returned (af x)/\∃n,w'=w.drewN n:=by
 subst g;exact Ml r s b e w c d f
def Bx(q:Nat)(v0 v1 v2 v3:ar)(w:ag):Prop:=w.heap[q]?=some (.cells #[v0,v1,v2,v3] 31)
theorem Bx.cells{q:Nat}{v0 v1 v2 v3:ar}{w:ag}(a:Bx q v0 v1 v2 v3 w):(ah w q 0 v0/\ah w q 1 v1/\ah w q 2 v2/\ah w q 3 v3)/\ (w.frozen? ⟨q,0,none⟩=false/\w.frozen? ⟨q,1,none⟩=false/\w.frozen? ⟨q,2,none⟩=false/\w.frozen? ⟨q,3,none⟩=false):=by
 unfold Bx at a;exact⟨⟨by simp[World.cell?,a],by simp[World.cell?,a],by simp[World.cell?,a],by simp[World.cell?,a]⟩,by simp[World.frozen?,a],by simp[World.frozen?,a],by simp[World.frozen?,a],by simp[World.frozen?,a]⟩
theorem Bx.block{q:Nat}{v0 v1 v2 v3:ar}{w w':ag}(a:Bx q v0 v1 v2 v3 w)(k:w'.heap[q]?=w.heap[q]?):Bx q v0 v1 v2 v3 w':=k.trans a
theorem Bx.lt{q:Nat}{v0 v1 v2 v3:ar}{w:ag}(a:Bx q v0 v1 v2 v3 w):q<w.heap.size:=(aI.1 a).1
theorem Bx.set3{q:Nat}{v0 v1 v2 v3:ar}{w:ag}(a:Bx q v0 v1 v2 v3 w)(v:ar):Bx q v0 v1 v2 v (w.setCell ⟨q,3,none⟩ v):=by
 unfold Bx at*;simp[World.setCell,bQ,a]
theorem Bx.new(w:ag)(v0 v1 v2 v3:ar):Bx w.heap.size v0 v1 v2 v3 (w.alloc (.cells #[v0,v1,v2,v3] 31)):=aD w _
def JK(n:Nat)(r:Nat)(s:ap)(c:List fT)(w:ag)(b e:Nat)(v:ar)(wr:ag)(l:List (Tm (n+1)))(a:List fT):Prop:=
 Rd r s b e wr/\At s b e a/\(w.alloc (.cells #[ab 0,ab 0,af ⟨#[]⟩,ae none 0 0] 31)).grownBy wr (some r)/\rv (w.heap.size+2) (n+1) l v wr/\
  Bx w.heap.size (ab 0) (ab 0) (af ⟨#[]⟩) (ae none 0 0) wr/\Bx (w.heap.size+1) (ab 4) (ab 0) (af ⟨#[]⟩) v wr/\
  Fs (Is (n+1)) l c a/\a.length<=c.length/\∀d,km s.size c (d+1)=km s.size a (d+1)
def ME(n:Nat)(r:Nat)(s:ap)(c:List fT)(w:ag)(b e:Nat)(v:ar)(wr:ag):Prop:=
 ∃(l:List (Tm (n+1)))(a:List fT),JK n r s c w b e v wr l a
theorem fW(w:ag)(o:Obj){q:Nat}(a:q<w.heap.size):(w.alloc o).heap[q]?=w.heap[q]? :=(dd w o none).block q a (by simp)
theorem Jm{n r:Nat}{s:ap}{b e:Nat}{t0:fT}{a:List fT}{w w1:ag}(h:Rd r s b e w)(c:At s b e (t0::a))(k:Rd r s (dV s e) (eO s e) w1)(g:((w.alloc (.cells #[ab 0,ab 0,af ⟨#[]⟩,ae none 0 0] 31)).alloc (.cells #[ab 4,ab 0,af ⟨#[]⟩,ae none 0 0] 31)).grownBy w1 (some r)):ME n r s a w (dV s e) (eO s e) (ae none 0 0) w1:=by
 have i:=h.lt;have d:=(At.cons c).2.1;refine⟨[],a,k,by rw[d];exact At.next c.2.1,cd (dd _ _ _) g,⟨⟨rfl,aj ⟨rfl,rfl⟩⟩,by simp⟩,?_,?_,rfl,av _,λ_=>rfl⟩
 ·exact((Bx.new w _ _ _ _).block (fW _ _ (by simp))).block (g.block _ (by simp;omega) (by simp;omega))
 ·have:=Bx.new (w.alloc (.cells #[ab 0,ab 0,af ⟨#[]⟩,ae none 0 0] 31)) (ab 4) (ab 0) (af ⟨#[]⟩) (ae none 0 0);have f:(w.alloc (.cells #[ab 0,ab 0,af ⟨#[]⟩,ae none 0 0] 31)).heap.size=w.heap.size+1:=by simp
  rw[f]at this;exact this.block (g.block _ (by simp) (by simp;omega))
theorem rv.kept{base n:Nat}{l:List (Tm n)}{v:ar}{w w':ag}(a:rv base n l v w){r:Nat}(g:w.grownBy w' (some r))(k:r<base):rv base n l v w':=by
 refine⟨a.1.kept g (ak λf=>by have:=a.1.lt r f;omega),λe d=>⟨?_,(a.2 e d).2⟩⟩;obtain⟨c,h⟩:=a.2 e d;have i:=In.offB h c;exact(In.off (λb j=>g.block b j.2 (by simp;omega)) i c).mono g.size
theorem rv.snoc{base n:Nat}{l:List (Tm (n+1))}{v:ar}{w0 w w2:ag}(h:rv base (n+1) l v w0){r:Nat}(i:w0.grownBy w (some r))(A:r<base){x:Tm (n+1)}(C:In w.heap.size w (n+1) x)(y:cv (λq=>w0.heap.size<=q) (n+1) x)(D:base<=w0.heap.size){w1:ag}(j:w.grownBy w1 none){g c:Nat}(z:w2.ownsRow base 31 4 (ae (some ⟨g,0,none⟩) (l.length+1) c) (l.length+1) (cJ (l.map (gF (n+1)))++uh (gF (n+1) x)))(k:w1.grownBy w2 v.ownBlock)(u:v.ownBlock=some g\/g=w1.heap.size):rv base (n+1) (l++ [x]) (ae (some ⟨g,0,none⟩) (l.length+1) c) w2:=by
 have p:=h.kept i A;have E:=i.size;have F:=j.size;have G:=k.size;have B:∀b,v.ownBlock=some b->b<w0.heap.size:=λb d=>(h.1.lt b d).2;refine⟨by simpa [cJ]using z,λa f=>?_⟩
 have key:∀a:Tm (n+1),In w.heap.size w (n+1) a->cv (λb=>base<=b/\v.ownBlock≠some b) (n+1) a->
   In w2.heap.size w2 (n+1) a/\cv (λb=>base<=b/\(Value.slice (some ⟨g,0,none⟩) (l.length+1) c).ownBlock≠some b) (n+1) a:=by
  intro a m t;have o:=In.offB t m;refine⟨(In.off (λb e=>(k.block b (by omega) (λd=>e.1.2 d.symm)).trans (j.block b e.2 (by simp))) o m).mono (by omega),o.mono λb e=>⟨e.1.1,?_⟩⟩;intro d;have s:g=b:=by simpa [Value.ownBlock]using d
  rcases u with h|h
  ·exact e.1.2 (by rw[h,s])
  ·omega
 rcases cY.1 f with f|f
 ·exact key a (p.2 a f).1 (p.2 a f).2
 ·have d:a=x:=by simpa using f
  subst d;exact key a C (y.mono λb e=>⟨by omega,λd=>by have:=B b d;omega⟩)
theorem Jj{n r:Nat}{s:ap}{t0:fT}{p:List fT}{w wr w2:ag}{b e:Nat}{a:au}{L c m:Nat}(N:r<w.heap.size)(x:Du t0.2=true)(A:ME n r s p w b e (ae a L c) wr)(j:zW (s.extract b e)=true)(k:Rd r s (dV s e) (eO s e) w2)(g:(wr.drewN m).grownBy w2 (some r)):mx (n+2) s r (t0::p) (w.alloc (.cells #[ab 0,ab 0,af ⟨#[]⟩,ae none 0 0] 31)) w2 (.agg #[ab 4,ab 0,af ⟨#[]⟩,ae a L c]) true/\ Bx w.heap.size (ab 0) (ab 0) (af ⟨#[]⟩) (ae none 0 0) w2/\Bx (w.heap.size+1) (ab 4) (ab 0) (af ⟨#[]⟩) (ae a L c) w2:=by
 obtain⟨l,o,J,h,q,B,u,v,C,K,D⟩:=A;have P:=q.size;have G:=v.lt;have i:wr.grownBy w2 (some r):=cd (eW wr m _) g;obtain⟨H,I,ev,F,E⟩:=(B.kept i (by omega)).tup;injection ev with d f z;subst d f z;refine⟨⟨cd q i,dV s e,eO s e,j9 s e,k,At.next h.2.1,λ_=>⟨⟨_,rfl,?_,E,F.mono λO M=>by simp;omega⟩,?_⟩,by simp⟩,u.block (i.block _ u.lt (by simp;omega)),v.block (i.block _ G (by simp;omega))⟩
 ·cases o with
  | nil=>simp[zW,h.nil]at j
  | cons t o=>
   obtain⟨d,f,_⟩:=h.cons;subst d f;exact⟨t0,p,rfl,ak ⟨x,rfl,_,C,j⟩⟩
 ·intro y;cases o with
  | nil=>simp[zW,h.nil]at j
  | cons t o=>
   obtain⟨d,f,_⟩:=h.cons;subst d f;simp only[Dt,x,de];rw[D y,EO _ _ _ _ j]
theorem mx.box{n r:Nat}{s:ap}{d:List fT}{w w1:ag}{o:Obj}{v:ar}{ok:Bool}(a:r<w.heap.size)(g:mx n s r d (w.alloc o) w1 v ok)(v0 v1 v2 v3:ar):mx n s r d w ((((w1.setCell ⟨w.heap.size,0,none⟩ v0).setCell ⟨w.heap.size,1,none⟩ v1).setCell ⟨w.heap.size,2,none⟩ v2).setCell ⟨w.heap.size,3,none⟩ v3) v ok:=by
 obtain⟨h,b,f,q,i,j,k,l⟩:=g;refine⟨mV (mV (mV (mV (cd (dd _ _ _) h) (av _) _ _) (av _) _ _) (av _) _ _) (av _) _ _,b,f,q,(((i.far a _ _).far a _ _).far a _ _).far a _ _,j,λm=>?_,l⟩;obtain⟨⟨x,t,u,y,e⟩,z⟩:=k m;have c:∀b,(w.alloc o).heap.size<=b->((((w1.setCell ⟨w.heap.size,0,none⟩ v0).setCell ⟨w.heap.size,1,none⟩ v1).setCell ⟨w.heap.size,2,none⟩ v2).setCell ⟨w.heap.size,3,none⟩ v3).heap[b]?=w1.heap[b]? :=λb c=>by
  have A:w.heap.size<b:=by simp at c;omega
  rw[fm _ _ _ _ (by simp;omega),fm _ _ _ _ (by simp;omega),fm _ _ _ _ (by simp;omega),fm _ _ _ _ (by simp;omega)]
 refine⟨⟨x,t,u,(In.off c e y).mono (by simp[World.setCell]),e.mono λB p=>by simp at p;omega⟩,z⟩
theorem mx.alloc{n r:Nat}{s:ap}{a:List fT}{w w1:ag}{v:ar}{ok:Bool}(f:mx n s r a w w1 v ok)(o:Obj):mx n s r a w (w1.alloc o) v ok:=by
 obtain⟨g,b,e,p,h,i,j,k⟩:=f;refine⟨f9 g o,b,e,p,h.alloc o,i,λm=>?_,k⟩;obtain⟨⟨x,q,t,c,d⟩,u⟩:=j m;exact⟨⟨x,q,t,(In.off (λb l=>fW w1 o l.2) (In.offB d c) c).mono (by simp),d⟩,u⟩
theorem At.no{s:ap}{b e:Nat}{a:List fT}(d:At s b e a)(f:zW (s.extract b e)=false):∀t c,a=t::c->zW t.2=false:=by
 intro t c e;subst e;rw[d.cons.1];exact f
theorem yX{n r:Nat}{s:ap}{h f:List fT}{w wr w1:ag}{b e m:Nat}{v:ar}{l:List (Tm (n+1))}(u:r<w.heap.size)(a:JK n r s h w b e v wr l f)(g:(wr.drewN m).grownBy w1 (some r)):Bx w.heap.size (ab 0) (ab 0) (af ⟨#[]⟩) (ae none 0 0) w1/\Bx (w.heap.size+1) (ab 4) (ab 0) (af ⟨#[]⟩) v w1/\w.heap.size+1<w1.heap.size:=by
 obtain⟨i,j,k,o,c,d,p,q,t⟩:=a;have a:=d.block (g.block _ d.lt (by simp;omega));exact⟨c.block (g.block _ c.lt (by simp;omega)),a,a.lt⟩
theorem Jk{n r:Nat}{s:ap}{t0:fT}{d c:List fT}{w wr w1:ag}{b e m:Nat}{v A:ar}{l:List (Tm (n+1))}(q:Du t0.2=true)(i:JK n r s d w b e v wr l c)(p:zW (s.extract b e)=false)(R:mx (n+1) s r c (wr.drewN m) w1 A false)(z:ar):mx (n+2) s r (t0::d) (w.alloc (.cells #[ab 0,ab 0,af ⟨#[]⟩,ae none 0 0] 31)) w1 z false:=by
 obtain⟨B,j,k,C,D,E,F,G,o⟩:=i;obtain⟨h,f,g,y,t,u,_,x⟩:=R;refine⟨cd k (cd (eW wr m _) h),f,g,y,t,u,by simp,λ_ a=>?_⟩;simp only[Dt,q,de];rw[o a,CK _ _ _ (j.no p)];exact x rfl (a+1)
theorem F0{n:Nat}:(l:List (Tm n))->(a r:List fT)->Fs (Is n) l a r->l.length+r.length<=a.length
 | [],a,r,h=>by have e:a=r:=h;subst e;simp
 | x::l,a,r,h=>by
  obtain⟨m,b,c⟩:=h;have d:=F0 l m r c;have f:=uB n x a m b;have g:0<(aC n x).length:=by
   cases n with
   | zero=>exact b.elim
   | succ n=>simp[aC]
  simp only[bu];omega
theorem N3{n r:Nat}{s:ap}{h o:List fT}{w wr w1:ag}{b e m:Nat}{a:au}{L c:Nat}{l:List (Tm (n+1))}(F:r<w.heap.size)(q:JK n r s h w b e (ae a L c) wr l o)(g:(wr.drewN m).grownBy w1 (some r))(E:h.length<=2048):l.length=L/\L<=2048/\∀d f,((w1.alloc d).alloc f).ownsRow (w.heap.size+2) 31 4 (ae a L c) L (cJ (l.map (gF (n+1)))):=by
 obtain⟨x,y,z,k,A,B,t,C,D⟩:=q;have p:wr.grownBy w1 (some r):=cd (eW wr m _) g;obtain⟨u,v,ev,_⟩:=k.tup;injection ev with _ i _;have:=F0 l h o t;have j:=(k.kept p (by omega)).1;rw[<-i]at j;exact⟨i.symm,by omega,λd f=>(j.alloc d).alloc f⟩
theorem Jl{n r:Nat}{s:ap}{S y:List fT}{w wr w1 f:ag}{b e m:Nat}{a:au}{L c:Nat}{l:List (Tm (n+1))}(am:r<w.heap.size)(D:JK n r s S w b e (ae a L c) wr l y)(ai:zW (s.extract b e)=false){k z:Int}{t:ap}{p:au}{v q:Nat}(R:mx (n+1) s r y (wr.drewN m) w1 (.agg #[ab k,ab z,af t,ae p v q]) true){O P:Obj}{g h:Nat}(ah:l.length=L)(I:f.ownsRow (w.heap.size+2) 31 4 (ae (some ⟨g,0,none⟩) (L+1) h) (L+1) (cJ (l.map (gF (n+1)))++ [ab k,ab z,af t,ae p v q]))(u:((w1.alloc O).alloc P).grownBy f (Value.slice a L c).ownBlock)(aj:(Value.slice a L c).ownBlock=some g\/g=w1.heap.size+2):(Bx (w.heap.size+1) (ab 4) (ab 0) (af ⟨#[]⟩) (ae a L c) f/\ ∃i j,ME n r s S w i j (ae (some ⟨g,0,none⟩) (L+1) h) (f.setCell ⟨w.heap.size+1,3,none⟩ (ae (some ⟨g,0,none⟩) (L+1) h))/\P9 r s (f.setCell ⟨w.heap.size+1,3,none⟩ (ae (some ⟨g,0,none⟩) (L+1) h))<P9 r s wr):=by
 subst ah;obtain⟨av,aw,aH⟩:=yX am D R.1;obtain⟨X,E,Y,F,aD,Z,aa,aE,ad⟩:=D;obtain⟨W,i,j,T,ao,M,aq,_⟩:=R;have C:wr.grownBy w1 (some r):=cd (eW wr m _) W;obtain⟨⟨x,o,U,ax,ay⟩,az⟩:=aq rfl;have H:∀b,(Value.slice a l.length c).ownBlock=some b->w.heap.size+2<=b:=λb e=>(F.1.lt b e).1;have ak:uh (gF (n+1) x)=[ab k,ab z,af t,ae p v q]:=by
  have V:dB (n+1) x=.agg (uh (gF (n+1) x)).toArray:=rfl;rw[V]at o;injection o with o;exact Array.toList_inj.2 o
 rw[<-ak]at I;have K:=F.snoc C (by omega) ax ay (by have:=Z.lt;simp;omega) (w1:=(w1.alloc O).alloc P) (f9 (f9 (eW w1 0 _) _) _) I u (by simpa using aj);have al:∀d,d<w.heap.size+2->some d≠(Value.slice a l.length c).ownBlock:=λd J e=>by have:=H d e.symm;omega
 have A:∀d,d<w.heap.size+2->f.heap[d]?=w1.heap[d]? :=λd J=>(u.block d (by simp;omega) (al d J)).trans ((fW _ _ (by simp;omega)).trans (fW _ _ (by omega)));have Q:=aw.block (A (w.heap.size+1) (by omega));have ar:Rd r s i j f:=ao.block (A r (by omega));have aB:f.heap.size=(f.setCell ⟨w.heap.size+1,3,none⟩ (ae (some ⟨g,0,none⟩) (l.length+1) h)).heap.size:=by simp[World.setCell]
 have N:=ar.far (g:=w.heap.size+1) (by omega) 3 (ae (some ⟨g,0,none⟩) (l.length+1) h);have aF:=uB (n+1) x y T U;have aG:0<(aC (n+1) x).length:=by simp[aC]
 refine⟨Q,i,j,⟨l++ [x],T,N,M,?_,?_,?_,Q.set3 _,aa.snoc U,by omega,λB=>?_⟩,?_⟩
 ·refine mV (Ig (f9 (f9 (cd Y C) _) _) u λb G=>?_) (by simp) _ _;have:=H b G;simp;omega
 ·refine⟨ownsRow_setCell_below (by simpa using K.1) (by simp) _,λaA an=>?_⟩;obtain⟨y1,y2⟩:=K.2 aA an;refine⟨?_,y2⟩;rw[<-aB];exact In.off (λb G=>fm _ _ _ _ (by simp;omega)) y2 y1
 ·exact(av.block (A w.heap.size (by omega))).block (fm _ _ _ _ (by simp))
 ·rw[ad B,CK _ _ _ (E.no ai)];exact az (B+1)
 ·rw[KZ N M,KZ X E];omega
theorem Hf(w:ag)(o:Obj)(v0 v1 v2 v3:ar)(e:TypeId):∀(j:Nat)(a:ar),[v0,v1,v2,v3][j]?=some a->((w.alloc o).alloc (.cells #[v0,v1,v2,v3] e)).cell? ((⟨w.heap.size+1,0,none⟩:Addr).add j)=some a:=by
 intro j a b;rw[fA];rw[World.cell?_alloc_at _ _ _ _ (by simp)];simpa using b
theorem Kx(k d:Int)(t:ap)(a:au)(l c:Nat):∀v∈[Value.int .i64 k,ab d,af t,ae a l c],v.oneCell'=true:=by
 intro v b;simp at b;rcases b with rfl|rfl|rfl|rfl<;>rfl
theorem Fg(n:Nat)(ih:Oj n)(r:Nat)(s:ap)(b e:Nat)(t0:fT)(y:List fT)(w:ag)(G:Rd r s b e w)(Q:At s b e (t0::y))(E:s.size<=2048)(U:y.length<=n)(V:Du t0.2=true):ao 108 #[aH r] w λg w'=>MC (n+2) s r (t0::y) w w' g:=by
 have p:=G.lt;obtain⟨az,T,X,Y,Z⟩:=bU gJ;have B:=aq (⟨T,X,Y,Z⟩:_/\_/\_/\_);clear T X Y Z;have d:=aq (⟨G,Q,E,U,V⟩:_/\_/\_/\_/\_);have ak:=aq ih;clear G Q U V ih;go_enter func108,ntmps108;go_wp2_with (go_at_call 68;refine(rV r s b e _ ((d.1.alloc _).alloc _) d.2.1.2.1 E).mono ?_;rintro g ai ⟨rfl,j⟩);go_loopw [] (λwr=>∃(b e:Nat)(D:au)(q c:Nat),Hid (ME n r s y w b e (ae D q c) wr)/\True) (λwr=>P9 r s wr)
 case atStart=>exact⟨_,_,_,_,_,Jm d.1 d.2.1 j.1 j.2,trivial⟩
 case round=>
  obtain⟨f,h,D,q,c,P,_⟩:=hrel;clear j;obtain⟨l,I,i⟩:=P.out;replace i:=aq i;obtain⟨x,aa⟩:∃x,s.extract f h=x:=⟨_,rfl⟩;have C:=aq aa;clear aa;have a:Hid (Rd r s f h wr/\At s f h I/\I.length<=n/\y.length<=2048):=by
   obtain⟨m,o,H,aL,aM,aN,aO,ar,aP⟩:=i.out;refine⟨m,o,aF ar d.2.2.2.1,?_⟩;have:=mr s (s.size-e) e (av _);rw[<-d.out.2.1.cons.2.1]at this;omega
  cases hc:(x.toList==[41])
  ·have aQ:(x.toList=[41])=False:=by simpa using hc
   have aR:(x.toList !=[41])=true:=by simpa using hc
   have O:Hid (zW (s.extract f h)=false):=by rw[C.out];exact hc
   go_wp2_with (first
    | (go_at_call 70;refine(pC r s f h x wr a.1 a.2.1.1 a.2.1.2.1 C).mono ?_;rintro g ai ⟨rfl,u,rfl⟩)
    | (go_at_call 69;refine(ak r s f h I (wr.drewN u) (a.1.drew u) a.2.1 E a.2.2.1).mono ?_;rintro g F ⟨k,aG,t,al,aE,an,ok,rfl,A⟩;obtain⟨ad,ah,aS⟩:=yX p i A.1;have aw:w.heap.size<F.heap.size:=(by omega);obtain⟨⟨J,K,L,M⟩,f0,f1,f2,f3⟩:=ad.cells;obtain⟨⟨y0,y1,y2,aI⟩,aA,aB,aC,aD⟩:=ah.cells;clear ad ah;cases ok)
    | (at_builtin;have z:=aq (N3 p i A.1 a.2.2.2);refine wpList_append_lies _ rfl _ _ 29 rfl (w.heap.size+2) 31 az _ 4 56 underlying29 B.1 B.2.1 B.2.2.1 B.2.2.2 rfl (by decide) _ q _ rfl (z.2.2 _ _) ⟨F.heap.size+1,0,none⟩ 1 1 [ab k,ab aG,af t,ae al aE an] rfl rfl (Hf _ _ _ _ _ _ _) (Kx _ _ _ _ _ _) (by decide) (by have:=z.2.1;unfold maxLen;omega) (by have:=z.2.1;omega) (by simp;omega) (F.heap.size+2) (by simp) ?_;intro aK aJ aX W S R ax;have N:=aq (Jl p i O A z.1 W S R);obtain⟨⟨aY,aZ,a0,a1⟩,aT,aU,aV,aW⟩:=N.out.1.cells;clear W S R ax))
   ·exact ay (v:=.tuple #[.agg #[ab 0,ab 0,af ⟨#[]⟩,ae none 0 0],.bool false]) (by simp[results,results108,go_sem,J,K,L,M,aw]) rfl ⟨0,0,⟨#[]⟩,none,0,0,false,rfl,(mx.box p (Jk d.2.2.2.2 i O A _) _ _ _ _).alloc _⟩
   ·obtain⟨am,g,m,o⟩:=N.2;go_roundw
    case rel=>exact⟨am,g,_,_,_,m,trivial⟩
    case measure=>exact o
  ·go_wp2_with (first
     | (go_at_call 70;refine(pC r s f h x wr a.1 a.2.1.1 a.2.1.2.1 C).mono ?_;rintro g ai ⟨rfl,u,rfl⟩)
     | (go_at_call 68;refine(rV r s f h (wr.drewN u) (a.1.drew u) a.2.1.2.1 E).mono ?_;rintro g F ⟨rfl,j⟩;obtain⟨m,o,H⟩:=Jj p d.2.2.2.2 P (by rw[C.out];exact hc) j.1 j.2;obtain⟨⟨J,K,L,M⟩,f0,f1,f2,f3⟩:=o.cells;obtain⟨⟨y0,y1,y2,aI⟩,aA,aB,aC,aD⟩:=H.cells;have aj:=aq (mx.box p m);clear m o H))
   exact ay (v:=.tuple #[.agg #[ab 4,ab 0,af ⟨#[]⟩,ae D q c],.bool true]) (by simp[results,results108,go_sem,J,K,L,M]) rfl ⟨4,0,⟨#[]⟩,D,q,c,true,rfl,aj _ _ _ _⟩
theorem KP{x:ap}(a:x.toList=[]):fQ x=false:=by
 rw[cF]at a;have b:x.size=0:=by
  have:x.data.toList.length=x.size:=by simp
  rw[a]at this;exact this.symm
 simp[fQ,cF,fi,a,b]
theorem mx.undrew{n r:Nat}{s:ap}{a:List fT}{w w1:ag}{m:Nat}{v:ar}{ok:Bool}(b:mx n s r a (w.drewN m) w1 v ok):mx n s r a w w1 v ok:=by
 obtain⟨c,d⟩:=b;exact⟨cd (eW w m _) c,d⟩
theorem KQ{n r:Nat}{s:ap}{b e:Nat}{d:List fT}{w w1 w2:ag}{x:ap}(a:At s b e d)(h:s.extract b e=x)(z:s.size<=2048)(i:Du x=false){k f:Int}{t:ap}(c:fQ x=true)(u:(k,f,t)=lM x)(A:t.size<=x.size)(p:dI k)(q:dI f){o:Obj}(m:am w w1)(v:Rd r s (dV s e) (eO s e) w2)(g:(w1.alloc o).grownBy w2 (some r)):mx (n+1) s r d w w2 (.agg #[ab k,ab f,af t,ae none 0 0]) true:=by
 have B:x.size<=2048:=by rw[<-h];simp;have:=a.2.1;omega
 refine⟨cd (f9 (oH (gV w _) m) o) g,dV s e,eO s e,j9 s e,v,At.next a.2.1,λ_=>?_,by simp⟩;cases d with
 | nil=>
  have:=a.nil;rw[h]at this;rw[KP this]at c;exact absurd c (by simp)
 | cons t0 d=>
  obtain⟨j,l,_⟩:=a.cons;subst j l;rw[h];refine⟨⟨((k,f,t),(none,0),[]),rfl,⟨_,_,rfl,aj ⟨i,c,u,rfl,rfl⟩⟩,⟨⟨p,q,by unfold maxLen;simp only;omega,aM _,aM _⟩,aj rfl⟩,aj rfl⟩,λy=>?_⟩;simp only[Dt,i,c];simp
theorem Nr{n r:Nat}{s:ap}{b e:Nat}{a:List fT}{w w1:ag}{x:ap}(d:At s b e a)(k:s.extract b e=x)(j:Du x=false)(i:fQ x=false)(c:Rd r s b e w)(f:am w w1)(v:ar):mx (n+1) s r a w w1 v false:=by
 refine⟨oH (gV w _) f,b,e,a,c.block (f.block r c.lt),d,by simp,λ_ l=>?_⟩;cases a with
 | nil=>rfl
 | cons t0 a=>
  obtain⟨g,h,_⟩:=d.cons;subst g h;simp only[Dt,k,j,i];simp[Lo]
theorem GG{w w1:ag}{m:Nat}(a:Below (w.drewN m).heap.size (w.drewN m) w1):am w w1:=⟨a.os,a.tape,a.output,a.size,a.block⟩
theorem ve{w w2:ag}{r:Nat}{v0 v1 v2 v3:ar}(a:r<w.heap.size)(g:(w.alloc (.cells #[v0,v1,v2,v3] 31)).grownBy w2 (some r)):Bx w.heap.size v0 v1 v2 v3 w2:=
 (Bx.new w v0 v1 v2 v3).block (g.block _ (by simp) (by simp;omega))
theorem yT(n:Nat)(r:Nat)(s:ap)(b e:Nat)(o:List fT)(w:ag)(j:Rd r s b e w)(D:At s b e o)(E:s.size<=2048)(ih:∀w':ag,Rd r s b e w'->Du (s.extract b e)=true->ao 108 #[aH r] w' λc S=>MC (n+1) s r o w' S c):ao 69 #[aH r] w λc w'=>MC (n+1) s r o w w' c:=by
 have g:=j.lt;have a:=aq (⟨j,D⟩:_/\_);have O:=aq ih;clear j D ih;obtain⟨x,l⟩:∃x,s.extract b e=x:=⟨_,rfl⟩;have f:=aq l;have R:x.size<=2048:=by rw[<-l];simp;have:=a.2.2.1;omega
 clear l;cases hc:(x.toList==[40])
 ·have X:(x.toList=[40])=False:=by simpa using hc
  have Y:(x.toList !=[40])=true:=by simpa using hc
  go_enter func69,ntmps69
  go_wp2_with (first
   | (go_at_call 70;refine(pC r s b e x _ (a.1.alloc _) a.2.1 a.2.2.1 f).mono ?_;rintro c L ⟨rfl,m,rfl⟩)
   | (go_at_call 70;refine(pC r s b e x _ ((a.1.alloc _).drew m) a.2.1 a.2.2.1 f).mono ?_;rintro c L ⟨rfl,ai,rfl⟩)
   | (go_at_call 109;refine(IG x _ R).mono ?_;rintro c p ⟨⟨k,d,t,ok,rfl,A⟩,HB⟩;replace HB:=GG HB;obtain⟨⟨q,u,y,z⟩,f0,f1,f2,f3⟩:=zt HB;have P:w.heap.size<p.heap.size:=(by have:=HB.size;simp at this;omega);have Q:r<p.heap.size:=(by omega);replace HB:=aq HB;cases ok)
   | (go_at_call 68;refine(rV r s b e _ ((((a.1.alloc _).block (HB.block r (by simp;omega)))).alloc _) a.2.2.1 E).mono ?_;rintro c an ⟨rfl,h⟩;have N:=aq (cd (f9 (oH (gV _ _) HB) _) h.2);obtain⟨⟨T,U,V,W⟩,aj,ak,al,am⟩:=(ve g N).cells;obtain⟨⟨y0,y1,y2,ar⟩,Z,aa,ad,ah⟩:=(ve Q h.2).cells;obtain⟨G,H,I,J,K⟩:=A.out;have M:=aq (mx.box g (KQ (n:=n) a.2 f E hc G.symm (H (by trivial)) I J K HB h.1 h.2));clear G H I J K))
  ·exact ay (v:=.tuple #[.agg #[ab k,ab d,af t,ae none 0 0],.bool false]) (by simp[results,results69,go_sem,q,u,y,z,P]) rfl ⟨k,d,t,none,0,0,false,rfl,(mx.box g (Nr a.2 f hc A.1.symm (a.1.alloc _) HB _) _ _ _ _).alloc _⟩
  ·exact ay (v:=.tuple #[.agg #[ab k,ab d,af t,ae none 0 0],.bool true]) (by simp[results,results69,go_sem,T,U,V,W]) rfl ⟨k,d,t,none,0,0,true,rfl,M _ _ _ _⟩
 ·go_enter func69,ntmps69
  go_wp2_with (first
   | (go_at_call 70;refine(pC r s b e x _ (a.1.alloc _) a.2.1 a.2.2.1 f).mono ?_;rintro c L ⟨rfl,m,rfl⟩)
   | (go_at_call 108;refine(O _ ((a.1.alloc _).drew m) (by rw[f.out];exact hc)).mono ?_;rintro c p ⟨k,d,t,B,F,C,ok,rfl,i⟩;replace i:=aq i.undrew;obtain⟨⟨q,u,y,z⟩,f0,f1,f2,f3⟩:=(ve g i.1).cells))
  exact ay (v:=.tuple #[.agg #[ab k,ab d,af t,ae B F C],.bool ok]) (by simp[results,results69,go_sem,q,u,y,z]) rfl ⟨k,d,t,B,F,C,ok,rfl,mx.box g i _ _ _ _⟩
theorem II(n:Nat):Oj n:=by
 induction n with
 | zero=>
  intro g h b d c k j a f l;refine yT 0 g h b d c k j a f λm _ e=>?_;have i:c=[]:=bI (by omega);subst i;simp[Du,a.nil]at e
 | succ n ih=>
  intro g h b d c k j a f l;refine yT (n+1) g h b d c k j a f λm o e=>?_;cases c with
  | nil=>simp[Du,a.nil]at e
  | cons t c=>
   have i:=a.cons.1;refine Fg n ih g h b d t c m o a f (by simp at l;omega) ?_;rw[i];exact e
def oV:ar:=.agg #[ab 0,ab 0,af ⟨#[]⟩,ae none 0 0]
def QB(s:ap)(w w':ag)(v:ar)(pos a:Int):Prop:=
 (2048<s.size/\v=oV/\pos=0/\a=2)\/(∃b:Nat,s.size<=2048/\Dt s.size (j9 s 0) 0=some b/\v=oV/\pos=b/\a=3)\/
  (s.size<=2048/\Dt s.size (j9 s 0) 0=none/\∃(n:Nat)(x:Tm n),Is n x (j9 s 0) []/\In w'.heap.size w' n x/\cv (λc=>w.heap.size<=c) n x/\pos=0/\a=bG n x/\((bG n x≠0/\v=oV)\/(bG n x=0/\v=dB n x)))
def QA(s:ap)(w w':ag)(e:Ending):Prop:=
 ∃(k d:Int)(t:ap)(a:au)(l c:Nat)(pos b:Int),e=.returned (.tuple #[.agg #[ab k,ab d,af t,ae a l c],ab pos,ab b])/\
  Hid (QB s w w' (.agg #[ab k,ab d,af t,ae a l c]) pos b/\am w w')
theorem wI{w:ag}{q b:Nat}(a:b≠q)(v0 v1 v2 v3:ar):((((w.setCell ⟨q,0,none⟩ v0).setCell ⟨q,1,none⟩ v1).setCell ⟨q,2,none⟩ v2).setCell ⟨q,3,none⟩ v3).heap[b]?=w.heap[b]? :=by
 rw[fm _ _ _ _ (by simpa using a),fm _ _ _ _ (by simpa using a),fm _ _ _ _ (by simpa using a),fm _ _ _ _ (by simpa using a)]
theorem yI{w:ag}{q:Nat}(v0 v1 v2 v3:ar):((((w.setCell ⟨q,0,none⟩ v0).setCell ⟨q,1,none⟩ v1).setCell ⟨q,2,none⟩ v2).setCell ⟨q,3,none⟩ v3).heap.size=w.heap.size:=by simp[World.setCell]
theorem Iy{s:ap}{w w2 a:ag}(g:((w.alloc (.cells #[ab 0,ab 0,af ⟨#[]⟩,ae none 0 0] 31)).alloc (.cells #[af s,ab 0,ab 0] 146)).grownBy w2 (some (w.heap.size+1)))(b:w2.grownBy a (some (w.heap.size+1))):Bx w.heap.size (ab 0) (ab 0) (af ⟨#[]⟩) (ae none 0 0) a/\w.heap.size+1<a.heap.size/\am w a/\w.heap.size+2<=w2.heap.size:=by
 have c:=cd g b;have e:=g.size;have h:=b.size;simp at e;refine⟨((Bx.new w _ _ _ _).block (fW _ _ (by simp))).block (c.block _ (by simp;omega) (by simp)),by omega,?_,by omega⟩;exact((aS _ _).alloc (by simp) _).grown c (by simp;omega) (λf d=>by simp at d;omega)
theorem In.drewN{B:Nat}{w:ag}{n:Nat}{x:Tm n}(m:Nat){P:aO}(k:cv P n x)(a:In B w n x):In B (w.drewN m) n x:=In.off (w:=w) (w':=w.drewN m) (λ_ _=>rfl) k a
theorem Lg{s:ap}{w w2 c:ag}{v:ar}{b e:Nat}{a:List fT}{x:ap}(A:s.extract b e=x)(z:(x.toList==[])=true)(D:s.size<=2048)(r:At s b e a)(E:w.heap.size+2<=w2.heap.size)(l:(∃x:Tm 2049,dB 2049 x=v/\Is 2049 x (j9 s 0) a/\In c.heap.size c 2049 x/\cv (λq=>w2.heap.size<=q) 2049 x)/\∀d,Dt s.size (j9 s 0) d=km s.size a d)(o:Obj)(m:Nat):∃y:Tm 2049,v=dB 2049 y/\Is 2049 y (j9 s 0) []/\In ((c.alloc o).drewN m).heap.size ((c.alloc o).drewN m) 2049 y/\cv (λq=>w.heap.size+2<=q) 2049 y/\(aC 2049 y).length<=2097152/\Dt s.size (j9 s 0) 0=none:=by
 obtain⟨⟨y,n,h,i,f⟩,p⟩:=l;have j:a=[]:=by
  cases a with
  | nil=>rfl
  | cons t a=>
   have k:=r.cons.2.2;rw[A]at k;have g:x.toList=[]:=by simpa using z
   rw[cF]at g;have:x.data.toList.length=x.size:=by simp
   rw[g]at this;simp at this;omega
 subst j;have B:=uB 2049 y (j9 s 0) [] h;have g:=mr s s.size 0 (by omega);refine⟨y,n.symm,h,In.drewN m f ((In.off (λb u=>fW c o u.2) (In.offB f i) i).mono (by simp)),f.mono λq C=>by omega,by simp at B;omega,p 0⟩
theorem Le{w a c:ag}{m:Nat}{v0 v1 v2 v3:ar}(d:Bx w.heap.size (ab 0) (ab 0) (af ⟨#[]⟩) (ae none 0 0) a)(b:Below ((a.alloc (.cells #[v0,v1,v2,v3] 31)).drewN m).heap.size ((a.alloc (.cells #[v0,v1,v2,v3] 31)).drewN m) c):Bx w.heap.size (ab 0) (ab 0) (af ⟨#[]⟩) (ae none 0 0) c/\Bx a.heap.size v0 v1 v2 v3 c:=by
 have e:=d.lt;exact⟨(d.block (fW _ _ e)).block (b.block _ (by simp;omega)),(Bx.new a v0 v1 v2 v3).block (b.block _ (by simp))⟩
theorem Lf{s:ap}{b e:Nat}{a:List fT}{x:ap}(g:s.extract b e=x)(d:(x.toList==[])=false)(c:At s b e a)(f:Dt s.size (j9 s 0) 0=km s.size a 0):Dt s.size (j9 s 0) 0=some b:=by
 rw[f,<-c.pos];cases a with
 | nil=>rw[<-g]at d;simp[c.nil]at d
 | cons t a=>rfl
theorem Ld{w w4 a:ag}{n:Nat}{y:Tm n}(c:In w4.heap.size w4 n y)(k:cv (λq=>w.heap.size+2<=q) n y)(b:am w4 a)(v0 v1 v2 v3:ar):In ((((a.setCell ⟨w.heap.size,0,none⟩ v0).setCell ⟨w.heap.size,1,none⟩ v1).setCell ⟨w.heap.size,2,none⟩ v2).setCell ⟨w.heap.size,3,none⟩ v3).heap.size ((((a.setCell ⟨w.heap.size,0,none⟩ v0).setCell ⟨w.heap.size,1,none⟩ v1).setCell ⟨w.heap.size,2,none⟩ v2).setCell ⟨w.heap.size,3,none⟩ v3) n y:=by
 rw[yI];exact In.off (λq d=>wI (by omega) _ _ _ _) k ((c.below b).mono b.size)
theorem qx{w w1:ag}(a:am w w1)(v0 v1 v2 v3:ar):am w ((((w1.setCell ⟨w.heap.size,0,none⟩ v0).setCell ⟨w.heap.size,1,none⟩ v1).setCell ⟨w.heap.size,2,none⟩ v2).setCell ⟨w.heap.size,3,none⟩ v3):=
 ⟨a.os,a.tape,a.output,by rw[yI];exact a.size,λk b=>(wI (by omega) _ _ _ _).trans (a.block k b)⟩
theorem lD{B:Nat}{w w1:ag}(a:Below B w w1)(m:Nat):Below B w (w1.drewN m):=⟨a.os,a.tape,a.output,a.size,a.block⟩
theorem mL{w w1:ag}(a:am w w1)(o:Obj):am w (w1.alloc o):=a.alloc a.size o
theorem Iz(s:ap)(w:ag)(S:s.size<=maxLen):ao 39 #[af s] w λe w'=>QA s w w' e:=by
 unfold maxLen at S;by_cases D:2048<s.size
 ·have Q:(2048:Int)<s.size:=by omega
  go_enter func39,ntmps39;go_wp2_with fail;exact ay (v:=.tuple #[oV,ab 0,ab 2]) (by simp[results,results39,go_sem,oV]) rfl ⟨0,0,⟨#[]⟩,none,0,0,0,2,rfl,aj ⟨D,rfl,rfl,rfl⟩,by go_grown⟩
 ·have Q:(s.size:Int)<=2048:=by omega
  have i:s.size<=2048:=by omega
  clear D;have P:Hid (Rd (w.heap.size+1) s 0 0 ((w.alloc (.cells #[ab 0,ab 0,af ⟨#[]⟩,ae none 0 0] 31)).alloc (.cells #[af s,ab 0,ab 0] 146))):=by
   have:=aD (w.alloc (.cells #[ab 0,ab 0,af ⟨#[]⟩,ae none 0 0] 31)) (.cells #[af s,ab 0,ab 0] 146);simpa [Hid,Rd]using this
  go_enter func39,ntmps39
  go_wp2_with (first
   | (go_at_call 68;refine(rV (w.heap.size+1) s 0 0 _ P (aM _) i).mono ?_;rintro o U ⟨rfl,B⟩)
   | (go_at_call 69;refine(II 2048 (w.heap.size+1) s _ _ (j9 s 0) U B.1 (At.next (aM _)) i (aF (mr s s.size 0 (by omega)) (by omega))).mono ?_;rintro o V ⟨k,A,t,y,l,c,ok,rfl,C⟩;obtain⟨q,am,G,H⟩:=Iy B.2 C.1;obtain⟨⟨K,L,M,N⟩,f0,f1,f2,f3⟩:=q.cells;have E:w.heap.size<V.heap.size:=(by omega);obtain⟨_,d,o,aA,b⟩:=C;replace b:=aq b;obtain⟨⟨W,X,Y⟩,an,ar⟩:=b.out.1.cells;have HB:=aq (⟨G,H⟩:_/\_);replace q:=aq q;clear G H;obtain⟨x,F⟩:∃x,s.extract d o=x:=⟨_,rfl⟩;have u:=aq F;clear F;cases ok)
   | (go_at_call 70;refine(pC (w.heap.size+1) s d o x _ (b.1.alloc _) b.2.1.1 b.2.1.2.1 u).mono ?_;rintro Z aB ⟨rfl,m,rfl⟩;cases hc:(x.toList==[]))
   | (go_at_call 53;obtain⟨r,p,a⟩:=Lg u hc i b.2.1 HB.2 (b.2.2.1 (by trivial)) _ m;replace a:=aq a;refine(show Calls _ _ #[.agg #[ab k,ab A,af t,ae y l c]] _ _ from p▸ed 2049 r _ _ a.2.1 (av _) a.2.2.2.1).mono ?_;rintro aa aC ⟨rfl,h⟩;obtain⟨I,J⟩:=Le q h;obtain⟨⟨y0,y1,y2,O⟩,ad,ah,ai,al⟩:=I.cells;obtain⟨⟨aE,aG,aH,aI⟩,au,aw,ax,az⟩:=J.cells;have n:=aq h;clear I J h;replace p:=aq p;obtain⟨j,g⟩:∃j,bG 2049 r=j:=⟨_,rfl⟩;rw[g];replace g:=aq g;by_cases z:j=0))
  ·go_region;go_wp2_with fail;have f:=HB.1;exact ay (v:=.tuple #[oV,ab d,ab 3]) (by simp[results,results39,go_sem,oV,E,K,L,M,N]) rfl ⟨0,0,⟨#[]⟩,none,0,0,d,3,rfl,ak (aj ⟨d,i,by rw[<-b.out.2.1.pos];exact b.2.2.2 (by trivial) 0,rfl,rfl,rfl⟩),by go_grown⟩
  ·go_region;go_wp2_with fail;have f:=HB.1;exact ay (v:=.tuple #[oV,ab d,ab 3]) (by simp[results,results39,go_sem,oV,E,K,L,M,N]) rfl ⟨0,0,⟨#[]⟩,none,0,0,d,3,rfl,ak (aj ⟨d,i,Lf u hc b.2.1 ((b.2.2.1 (by trivial)).2 0),rfl,rfl,rfl⟩),qx (lD (mL f _) _) _ _ _ _⟩
  ·have f:=HB.1;have h:=n.out;exact ay (v:=.tuple #[.agg #[ab k,ab A,af t,ae y l c],ab 0,ab 0]) (by simp[results,results39,go_sem,y0,y1,y2,O]) rfl ⟨k,A,t,y,l,c,0,0,rfl,ak (ak ⟨i,a.2.2.2.2,2049,r,a.1,Ld a.2.1 a.2.2.1 n _ _ _ _,a.2.2.1.mono (λT R=>by omega),rfl,(g.trans z).symm,ak ⟨g.trans z,p⟩⟩),qx ((lD (mL f _) m).trans (h.mono (lD (mL f _) m).size)) _ _ _ _⟩
  ·have f:=HB.1;have h:=n.out;exact ay (v:=.tuple #[oV,ab 0,ab j]) (by simp[results,results39,go_sem,oV,y0,y1,y2,O]) rfl ⟨0,0,⟨#[]⟩,none,0,0,0,j,rfl,ak (ak ⟨i,a.2.2.2.2,2049,r,a.1,Ld a.2.1 a.2.2.1 n _ _ _ _,a.2.2.1.mono (λT R=>by omega),rfl,g.symm,aj ⟨by rw[g.out];exact z,rfl⟩⟩),qx ((lD (mL f _) m).trans (h.mono (lD (mL f _) m).size)) _ _ _ _⟩
def Pe{a:Type}(f:a->List fT->Option (List fT)):List a->List fT->Option (List fT)
 | [],ts=>some ts
 | x::l,ts=>(f x ts).bind (Pe f l)
def QP:(n:Nat)->Tm n->List fT->Option (List fT)
 | 0,_,_=>none
 | _+1,_,[]=>none
 | n+1,x,t::ts=>if Du t.2=true then if x.1=(4,0,⟨#[]⟩)then (Pe (QP n) x.2.2 ts).bind λr=>match r with
    | []=>none
    | c::r=>if zW c.2=true then some r else none else none
  else if fQ t.2=true/\x.1=lM t.2/\x.2.2.length=0 then some ts else none
theorem FX{b:Type}{f:b->List fT->Option (List fT)}{g:b->List fT->List fT->Prop}(c:∀x a r,f x a=some r->g x a r):(l:List b)->∀{a r:List fT},Pe f l a=some r->Fs g l a r
 | [],a,r,e=>by
  have e:some a=some r:=e;exact az e
 | x::l,a,r,e=>by
  obtain⟨m,d,h⟩:=bF.1 e;exact⟨m,c x a m d,FX c l h⟩
theorem vG:(n:Nat)->(x:Tm n)->(e r:List fT)->QP n x e=some r->Is n x e r
 | 0,_,_,_,h=>by cases h
 | _+1,_,[],_,h=>by cases h
 | n+1,x,t::e,r,h=>by
  unfold QP at h;refine⟨t,e,rfl,?_⟩;by_cases d:Du t.2=true
  ·rw[if_pos d]at h;by_cases g:x.1=(4,0,⟨#[]⟩)
   ·rw[if_pos g]at h;obtain⟨m,i,a⟩:=bF.1 h;cases m with
    | nil=>cases a
    | cons c m=>
     simp only at a;by_cases f:zW c.2=true
     ·rw[if_pos f]at a;obtain rfl:=az a;exact ak ⟨d,g,c,FX (vG n) x.2.2 i,f⟩
     ·rw[if_neg f]at a;cases a
   ·rw[if_neg g]at h;cases h
  ·rw[if_neg d]at h;by_cases b:fQ t.2=true/\x.1=lM t.2/\x.2.2.length=0
   ·rw[if_pos b]at h;exact aj ⟨by simpa using d,b.1,b.2.1,bI b.2.2,(az h).symm⟩
   ·rw[if_neg b]at h;cases h
def oW(s:ap)(n:Nat)(y:Tm n):Prop:=s.size<=2048/\Dt s.size (j9 s 0) 0=none/\Is n y (j9 s 0) []
theorem Co{s:ap}{n:Nat}{y:Tm n}(i:oW s n y)(u:bG n y=0)(w:ag):ao 39 #[af s] w λe w'=>∃(m:Nat)(x:Tm (m+1)),e=.returned (.tuple #[.agg #[ab x.1.1,ab x.1.2.1,af x.1.2.2,ae x.2.1.1 x.2.2.length x.2.1.2],ab 0,ab 0])/\Hid (aB (m+1) x n y=true/\In w'.heap.size w' (m+1) x/\cv (λq=>w.heap.size<=q) (m+1) x/\am w w'):=by
 obtain⟨j,o,p⟩:=i;refine(Iz s w (aF j (by unfold maxLen;omega))).mono ?_;rintro e w' ⟨k,E,t,B,l,c,pos,C,rfl,h⟩;obtain⟨z,r⟩:=h;rcases z with⟨a,_⟩|⟨D,_,a,_⟩|⟨_,_,m,x,A,f,v,rfl,rfl,b⟩
 ·omega
 ·rw[o]at a;cases a
 ·have g:=(Is.one m n x y _ _ _ A p).1;have d:bG m x=0:=by
   rw[IU m n x y g];exact u
  rcases b with⟨a,_⟩|⟨_,b⟩
  ·exact absurd d a
  ·cases m with
   | zero=>exact f.elim
   | succ m=>
    rw[d,b];exact⟨m,x,rfl,g,f,v,r⟩
def L8:ap:=⟨#[40,99,111,100,101,32,40,98,101,104,32,99,111,117,110,116,32,40,111,110,32,36,48,32,40,117,112,32,36,49,41,32,40,41,32,40,97,100,100,32,36,48,32,36,49,41,41,32,40,111,110,32,36,48,32,40,97,115,107,32,36,49,41,32,40,40,115,101,110,100,32,36,49,32,40,104,97,118,101,32,36,48,41,41,41,32,36,48,41,32,40,111,110,32,95,32,102,111,114,107,32,40,40,115,112,97,119,110,32,99,111,117,110,116,32,48,32,36,48,41,32,40,108,105,110,107,32,36,48,41,32,40,115,101,110,100,32,36,48,32,40,117,112,32,55,41,41,41,32,49,41,32,40,111,110,32,95,32,115,116,111,112,32,40,40,115,116,111,112,41,41,32,48,41,32,40,111,110,32,95,32,98,97,100,32,40,41,32,40,97,100,100,32,97,32,97,41,41,41,41]⟩
def QU:ap:=⟨#[40,117,112,32,51,41]⟩
def Pz:ap:=⟨#[102,111,114,107]⟩
def Qg:ap:=⟨#[98,97,100]⟩
theorem N4:oW L8 7 (cg 1 fY):=⟨by decide,by kernel_rfl,vG _ _ _ _ (by kernel_rfl)⟩
theorem Qh:oW QU 13 vX:=⟨by decide,by kernel_rfl,vG _ _ _ _ (by kernel_rfl)⟩
theorem N5:oW Pz 13 (br tY 12):=⟨by decide,by kernel_rfl,vG _ _ _ _ (by kernel_rfl)⟩
theorem PA:oW Qg 13 (br De 12):=⟨by decide,by kernel_rfl,vG _ _ _ _ (by kernel_rfl)⟩
theorem qW:bG 7 (cg 1 fY)=0/\bG 13 vX=0/\bG 13 (br tY 12)=0/\bG 13 (br De 12)=0:=⟨by kernel_rfl,by kernel_rfl,by kernel_rfl,by kernel_rfl⟩
def Fr(base:Nat)(a:au)(d:List (ap×Int×Int×Tc))(w:ag):Prop:=
 (d=[]\/∃c,a=some ⟨c,0,none⟩/\base<=c/\c<w.heap.size/\∀e b,d[e]?=some b->∀(t:Nat)(f:ar),(DO b)[t]?=some f->ah w c (e*7+t) f)/\∀b∈d,(In w.heap.size w 13 b.2.2.2/\cv (λg=>base<=g) 13 b.2.2.2)/\nM b.2.2.2
def uU(a:au)(L c:Nat):Prop:=(a=none/\L=0/\c=0)\/((∃g,a=some ⟨g,0,none⟩)/\L<=c)
def JB(e:ap×Int×Int×Tc):ap×Int×Int×Tc:=(e.1,e.2.1,e.2.2.1,cn 13 e.2.2.2)
theorem GS(xa:au)(xc:Nat)(w:ag):PP 0 0 ⟨#[]⟩ xa 0 xc sE w:=λW h=>by
 refine(sR 12 0 0 ⟨#[]⟩ xa 0 xc [] W (by decide) λw1 c=>?_).mono ?_
 ·refine(l6 xa xc w1).mono ?_;rintro e w' ⟨rfl,rfl⟩;exact⟨none,0,[],rfl,aA _ _,rfl,av _,aM _,rfl,aj rfl⟩
 ·rintro e w' ⟨a,b,l,rfl,H⟩;obtain⟨c,d,g,f,_⟩:=H;obtain rfl:l=[]:=bI d;exact⟨0,0,⟨#[]⟩,a,0,b,rfl,c,((0,0,⟨#[]⟩),(a,b),[]),⟨rfl,rfl,rfl⟩,⟨⟨⟨show dI 0 by unfold dI;decide,show dI 0 by unfold dI;decide,show (0:Nat)<=maxLen from aM _,aM _,f⟩,aj rfl⟩,aj rfl⟩,rfl,ak ⟨rfl,rfl⟩⟩
theorem O4{x:Tc}{w:ag}(d:In w.heap.size w 13 x)(a:nM x):PP x.1.1 x.1.2.1 x.1.2.2 x.2.1.1 x.2.2.length x.2.1.2 (cn 13 x) w:=by
 rcases a with a|⟨b,c⟩
 ·exact kJ d a
 ·obtain⟨⟨g,h,i⟩,⟨e,f⟩,j⟩:=x;simp only[eC]at b c;obtain⟨rfl,rfl,rfl⟩:=b;subst c;exact GS e f w
theorem M8(l:List (ap×Int×Int×Tc)):∀b∈l.flatMap DO,b.oneCell'=true:=λb c=>by
 obtain⟨e,_,a⟩:=ip.1 c;simp only[DO,cU,gS,gX]at a;rcases a with rfl|rfl|rfl|rfl|rfl|rfl|rfl<;>rfl
section
variable {p:lB} {s:Sy} {d:gz} {w:ag}
theorem bz.eventsF(C:bz p s d w)(a9:d.es.length<=100000):ao 29 #[aH p.b,ab 0] w λe w'=>∃a c,e=.returned (ae a d.es.length c)/\Hid (am w w'/\uU a d.es.length c/\∃al,al.length=d.es.length/\al.map JB=s.evs/\Fr w.heap.size a al w'):=by
 obtain⟨I,E,ax,aW,aB⟩:∃I E,d.ev=ae I d.es.length E/\d.es.length<=E/\(I=none/\d.es.length=0/\E=0\/∃g,I=some ⟨g,0,none⟩):=by
  rcases C.evr.1.2 with⟨e,R⟩|⟨g,c,aq,e,_,_,k,_⟩
  ·exact⟨none,0,by rw[e,R],by omega,aj ⟨rfl,R,rfl⟩⟩
  ·exact⟨_,c,e,k,ak ⟨g,rfl⟩⟩
 obtain⟨q,S⟩:∃q:Nat->ap×Int×Int×Tc,∀h,h<d.es.length->d.es[h]?=some (q h):=⟨λh=>d.es.getD h (⟨#[]⟩,0,0,sE),λh D=>by
  simp only[nt,aN D]
  rfl⟩
 have aX:∀j,am w j->∀h,h<d.es.length->In j.heap.size j 13 (q h).2.2.2/\nM (q h).2.2.2:=λj A h D=>by
  have:=(C.later A).evt.2 _ (aL (S h D));exact⟨this.1.1,this.2⟩
 have Y:=C.evr.1;rw[ax]at Y;have aI:ah w p.b 6 (ae I d.es.length E):=by
  have F:=ai C.box 6;simp only[ez,dc,dt]at F;rw[ax]at F;exact F
 refine(Ks p.b I d.es.length E (λh=>(q h).2.2.2.1.1) (λh=>(q h).2.2.2.1.2.1) (λh=>(q h).2.2.2.1.2.2) (λh=>(q h).2.2.2.2.1.1) (λh=>(q h).2.2.2.2.2.length) (λh=>(q h).2.2.2.2.1.2) w
  (λa c h j=>am w j/\uU a d.es.length c/\(d.es.length=0\/∃(g:Nat)(f:Nat->ap×Int×Int×Tc),a=some ⟨g,0,none⟩/\(w.heap.size<=g/\g<j.heap.size)/\(∀o,j.frozen? ⟨g,o,none⟩=false)/\(∀i,i<d.es.length->∀(t:Nat)(n:ar),(DO (f i))[t]?=some n->ah j g (i*7+t) n)/\(∀i,i<h->(JB (f i)=JB (q i)/\nM (f i).2.2.2)/\In j.heap.size j 13 (f i).2.2.2/\cv (λr=>w.heap.size<=r/\r≠g) 13 (f i).2.2.2)/\∀i,h<=i->i<d.es.length->f i=q i)) C.lo.2 (by omega) aW aB aI (λj A=>?_) (λa c h j D M=>?_)).mono ?_
 ·rcases aB with⟨rfl,R,rfl⟩|⟨g,rfl⟩
  ·rw[R];refine(Bk 0 j).mono ?_;rintro e w' ⟨rfl,rfl⟩;exact⟨none,0,rfl,aA _ _,A,aj ⟨rfl,rfl,rfl⟩,aj rfl⟩
  ·have y:=Y.lt g rfl;refine(Bl (d.es.flatMap DO) g d.es.length E j Y.1 (M8 _) (by omega) λbg B h n m=>?_).mono ?_
   ·have F:=World.ownsRow.cells Y (g:=g) rfl h n m;have aM:=A.trans (B.mono A.size);exact(aM.cell (p:=(⟨g,0,none⟩:Addr).add h) (by simp only[Addr.add];split<;>exact y.2)).trans F
   ·rintro e w' ⟨bf,rfl,J⟩;obtain⟨z,G⟩:=J.out;obtain⟨a,c,aJ,au,aw⟩:=sf G (by decide) λQ=>rfl;subst aJ;have O:uU a d.es.length c:=by
     rcases G.2 with⟨v,Z⟩|⟨K,a7,aq,v,_,_,Z,_⟩
     ·injection v with v aD aE;exact aj ⟨v,Z,aE⟩
     ·injection v with v aD aE;exact ak ⟨⟨K,v⟩,by omega⟩
    refine⟨a,c,rfl,z,A.trans (z.mono A.size),O,?_⟩;by_cases L:d.es.length=0
    ·exact aj L
    ·obtain⟨K,v,Z,aD⟩:=aw 0 _ (S 0 (by omega));obtain⟨aq,aO⟩:=eI G K (au _ v);have ba:=A.size;refine ak ⟨K,q,v,⟨by have:=(G.lt K (au _ v)).1;omega,Z⟩,λo=>by simp[World.frozen?,aO],λi l t n m=>?_,λi l=>by omega,λ_ _ _=>rfl⟩;obtain⟨a8,H,be,a4⟩:=aw i _ (S i l);rw[v]at H;injection H with H;injection H with H;subst H;exact a4 t n m
 ·obtain⟨B,O,M⟩:=M;rcases M with L|⟨g,f,rfl,y,aC,U,T,N⟩
  ·omega
  have aP:=N h (av _) D;have k:=U h D;rw[aP]at k;refine⟨g,rfl,k 3 _ rfl,k 4 _ rfl,k 5 _ rfl,k 6 _ rfl,?_⟩;obtain⟨a5,a6⟩:=aX j B h D;refine(O4 a5 a6 j (aA _ _)).mono ?_;rintro e w' ⟨y0,y1,y2,ya,yl,yc,rfl,J⟩;obtain⟨z,aF,⟨f1,f2,f3⟩,⟨G,a1⟩,a2,a3⟩:=J.out;have u:∀{o:Nat}{n:ar},ah j g o n->ah w' g o n:=λ{o n} r=>(z.cell (p:=⟨g,o,none⟩) y.2).trans r;have P:∀o,w'.frozen? ⟨g,o,none⟩=false:=λo=>(z.frozen (p:=⟨g,o,none⟩) y.2).trans (aC o);refine⟨y0,y1,y2,ya,yl,yc,rfl,⟨P _,P _,P _,P _⟩,⟨u (k 3 _ rfl),u (k 4 _ rfl),u (k 5 _ rfl),u (k 6 _ rfl)⟩,?_⟩;have aR:=oF w' g (h*7+3) (ab y0) (ab y1) (af y2) (ae ya yl yc);have bd:=bD (w:=w') (g:=g) (o:=h*7+3) (ab y0) (ab y1) (af y2) (ae ya yl yc);have W:=yz (ab y0) (ab y1) (af y2) (ae ya yl yc) ⟨u (k 3 _ rfl),u (k 4 _ rfl),u (k 5 _ rfl),u (k 6 _ rfl)⟩;have V:=λo (aT:o<h*7+3\/h*7+3+4<=o)=>Cq (w:=w') (g:=g) (v0:=ab y0) (v1:=ab y1) (v2:=af y2) (v3:=ae ya yl yc) o aT;have aQ:=λo=>(tQ (w:=w') (g:=g) (o:=h*7+3) (v0:=ab y0) (v1:=ab y1) (v2:=af y2) (v3:=ae ya yl yc) o).trans (P o);have aU:am w (cZ w' g (h*7+3) (ab y0) (ab y1) (af y2) (ae ya yl yc)):=dR (B.trans (z.mono B.size)) y.1;generalize cZ w' g (h*7+3) (ab y0) (ab y1) (af y2) (ae ya yl yc)=an at*;have bb:=z.size;have bc:=B.size;have ay:∀{x:Tc},In w'.heap.size w' 13 x->cv (λr=>w.heap.size<=r/\r≠g) 13 x->In an.heap.size an 13 x/\cv (λr=>w.heap.size<=r/\r≠g) 13 x:=λaZ a0=>eE aR (λr Q aG=>Q.2 aG) ⟨aZ,a0⟩;refine⟨aU,O,ak ⟨g,λi=>if i=h then ((q h).1,(q h).2.1,(q h).2.2.1,aF)else f i,rfl,⟨y.1,by omega⟩,aQ,λi l t n m=>?_,λi l=>?_,λi F aK=>?_⟩⟩
  ·have aV:t<7:=by
     have:=(aY.1 m).1;simpa [DO]using this
   by_cases e:i=h
   ·subst e;simp only[de]at m;obtain⟨⟨bh,bi,aG⟩,⟨bj,bk⟩,bl⟩:=aF;simp only[eC]at f1 f2;obtain⟨rfl,rfl,rfl⟩:=f1;obtain⟨rfl,rfl⟩:=f2;subst f3
    match t,aV with
    | 0,_=>exact(V _ (by omega)).trans (u (k 0 n m))
    | 1,_=>exact(V _ (by omega)).trans (u (k 1 n m))
    | 2,_=>exact(V _ (by omega)).trans (u (k 2 n m))
    | 3,_=>exact W.1.trans m
    | 4,_=>exact W.2.1.trans m
    | 5,_=>exact W.2.2.1.trans m
    | 6,_=>exact W.2.2.2.trans m
   ·simp only[if_neg e]at m;exact(V _ (by omega)).trans (u (U i l t n m))
  ·by_cases e:i=h
   ·simp only[e,de];have:=ay G (a1.mono λr Q=>⟨by omega,by omega⟩);refine⟨⟨?_,a3⟩,this.1,this.2⟩;unfold JB;rw[a2]
   ·simp only[if_neg e];obtain⟨aa,ad,ag⟩:=T i (by omega);have:=ay ((ad.below z).mono z.size) ag;exact⟨aa,this.1,this.2⟩
  ·simp only[if_neg (show¬i=h by omega)];exact N i (by omega) aK
 ·rintro e w' ⟨a,c,rfl,J⟩;obtain⟨B,O,M⟩:=J;refine⟨a,c,rfl,B,O,?_⟩;rcases M with L|⟨g,f,rfl,y,aC,U,T,N⟩
  ·have aS:d.es=[]:=bI L;refine⟨[],by rw[L];rfl,?_,aj rfl,λe N=>by cases N⟩;rw[<-C.evt.1,aS];rfl
  ·refine⟨(List.range d.es.length).map f,by simp,?_,ak ⟨g,rfl,y.1,y.2,λi e l t n m=>?_⟩,λe l=>?_⟩
   ·rw[<-C.evt.1];refine List.ext_getElem? λi=>?_;by_cases l:i<d.es.length
    ·rw[dh,dh,dh,List.getElem?_range l,S i l];exact congrArg some (T i l).1.1
    ·rw[eT (by simpa using Nat.le_of_not_lt l),eT (by simpa using Nat.le_of_not_lt l)]
   ·have X:i<d.es.length:=by
      have:=(aY.1 l).1;simpa using this
    rw[dh,List.getElem?_range X]at l;obtain rfl:=az l;exact U i X t n m
   ·obtain⟨i,X,rfl⟩:=cm.1 l;obtain⟨aa,ad,ag⟩:=T i (List.mem_range.1 X);exact⟨⟨ad,ag.mono λr Q=>Q.1⟩,aa.2⟩
theorem bz.events(h:bz p s d w)(i:d.es.length<=100000):ao 10 #[aH p.b] w λe w'=>∃a c,e=.returned (ae a d.es.length c)/\Hid (am w w'/\uU a d.es.length c/\∃f,f.length=d.es.length/\f.map JB=s.evs/\Fr w.heap.size a f w'):=by
 have g:=aq (h.eventsF i);clear h i;generalize d.es.length=k at*;go_enter func10,ntmps10;go_wp2_with fail;refine g.mono ?_;rintro e l ⟨a,c,rfl,j⟩;clear g;go_wp2_with fail
 go_ret
 exact⟨a,c,rfl,j⟩
end
theorem FM{x y:Tc}(g:nM x)(a:nM y)(b:cn 13 x=cn 13 y):aB 13 x 13 y=true:=by
 have j:∀{f:Tc},f.1=(0,0,⟨#[]⟩)->f.2.2=[]->cn 13 f=sE:=λ{f} c h=>by
  obtain⟨⟨m,d,e⟩,⟨n,o⟩,p⟩:=f;simp only[eC]at c h;obtain⟨rfl,rfl,rfl⟩:=c;subst h;rfl
 have i:¬bG 13 sE=0:=by
  intro k;have l:aJ ⟨13,sE⟩:=aU.2 (bJ.1 k).1;have:=l _ nv;simp[cN,sE]at this
 rcases g with g|⟨d,e⟩
 ·rcases a with a|⟨y1,y2⟩
  ·have c:=dS _ _ _ _ (eD g);rw[b]at c;exact bP _ _ _ _ _ _ c (eD a)
  ·rw[j y1 y2]at b;exact absurd (b▸nK g) i
 ·rcases a with a|⟨y1,y2⟩
  ·rw[j d e]at b;exact absurd (b▸nK a) i
  ·obtain⟨⟨m,d,e⟩,⟨n,o⟩,p⟩:=x;obtain⟨⟨q,r,s⟩,⟨t,u⟩,v⟩:=y;simp only at d e y1 y2;subst e y2;exact dm (by rw[d,y1]) rfl
theorem CV(b:Nat)(name:ap)(w:ag)(d:ah w b 0 (af name))(c:Hid (∀w1:ag,ao 63 #[af name] w1 λe w'=>e=.returned (af name)/\am w1 w')):ao 33 #[aH b] w λe w'=>e=.returned (af name)/\am w w':=by
 go_enter func33,ntmps33;go_wp2_with fail;refine(c _).mono ?_;rintro e w1 ⟨rfl,a⟩;have HB:=aq a;clear a;go_wp2_with fail
 go_ret
 exact⟨rfl,HB⟩
theorem P1.sname{b a:Nat}{name:ap}{room:Int}{cs:Tc}{c:List Tc}{k:Nat}{M:aO}{w:ag}(d:P1 b a name room cs c k M w)(h:name.size<=2048):ao 33 #[aH a] w λe w'=>e=.returned (af name)/\am w w':=by
 obtain⟨l,s,p,x,r,t,v,n,o,j,f,_⟩:=d;obtain⟨u,m,q,g,_⟩:=f.heap.box;exact CV a name w (PL.cells g).1 λi=>en name i h
theorem P1.mails2{x v:Nat}{name:ap}{room:Int}{cs:Tc}{g:List Tc}{k:Nat}{M:aO}{w:ag}(C:P1 x v name room cs g k M w)(J:k<=50000)(D:g.length<=999):ao 35 #[aH v] w λe w'=>∃(ys:List Tc)(a:au)(c:Nat),e=.returned (ae a g.length c)/\Hid (ys.length=g.length/\am w w'/\fU w'.heap.size w' 13 ys a/\ys.map (cn 13)=g/\((∀b,(Value.slice a g.length c).ownBlock=some b->w.heap.size<=b)/\g.length<=c)/\∀y∈ys,bG 13 y=0/\cv (λq=>w.heap.size<=q) 13 y):=by
 obtain⟨R,ad,l,ai,ab,af,ah,Z,aa,P,t,⟨rfl,rfl⟩,X,Y⟩:=C;have G:∀y∈l,bG 13 y=0:=λy d=>((t.front (N:=12)).2.2.1 y (bT _ d)).1;have W:l.length<=999:=by simpa using D
 refine(t.mails (N:=12) J (by omega)).mono ?_;rintro e w' ⟨ys,A,a,c,rfl,z⟩;obtain⟨u,j,p⟩:=z;have E:A=(l.map (cn 13)).length:=by
  rw[<-u,dN];exact cT _ _ _ p
 subst E;obtain⟨Q,S,m,_,n,_⟩:=fy.lay (eA 13) (f:=iL 13) (λ_=>rfl) j;injection m with m _ _;subst m;have H:(l.map (cn 13)).length<=c:=by
  rcases j.2.1.2 with⟨_,U⟩|⟨s,cap,T,e,_,_,V,_⟩
  ·omega
  ·injection e with _ _ e;omega
 refine⟨ys,a,c,rfl,u,j.1,?_,QN ys l p,⟨λb F=>(j.2.1.lt b F).1,H⟩,λy d=>⟨?_,(j.2.2 y d).2.mono λq K=>by rcases K.1 with r|r<;>omega⟩⟩
 ·rcases n with n|⟨s,o,B,I,h⟩
  ·exact aj n
  ·exact ak ⟨s,o,B,I,λi y d=>⟨⟨(h i y d).1 0 _ rfl,(h i y d).1 1 _ rfl,(h i y d).1 2 _ rfl,(h i y d).1 3 _ rfl⟩,(h i y d).2⟩⟩
 ·obtain⟨r,O,L⟩:=ti _ _ _ p y d;exact(bZ L).trans (G r O)
section
variable {p:lB} {s:Sy} {d:gz} {w:ag}
end
theorem E9(s:ap)(r:s=⟨#[40,99,111,100,101,32,40,98,101,104,32,99,111,117,110,116,32,40,111,110,32,36,48,32,40,117,112,32,36,49,41,32,40,41,32,40,97,100,100,32,36,48,32,36,49,41,41,32,40,111,110,32,36,48,32,40,97,115,107,32,36,49,41,32,40,40,115,101,110,100,32,36,49,32,40,104,97,118,101,32,36,48,41,41,41,32,36,48,41,32,40,111,110,32,95,32,102,111,114,107,32,40,40,115,112,97,119,110,32,99,111,117,110,116,32,48,32,36,48,41,32,40,108,105,110,107,32,36,48,41,32,40,115,101,110,100,32,36,48,32,40,117,112,32,55,41,41,41,32,49,41,32,40,111,110,32,95,32,115,116,111,112,32,40,40,115,116,111,112,41,41,32,48,41,32,40,111,110,32,95,32,98,97,100,32,40,41,32,40,97,100,100,32,97,32,97,41,41,41,41]⟩)(w:ag)(o:Int->Int->ap->au->Nat->Nat->ag->Prop)(i:au->Nat->Nat->ag->Prop)(m:Hid (ao 39 #[af s] w λe w'=>∃y0 y1 y2 ya yl yc,e=.returned (.tuple #[.agg #[ab y0,ab y1,af y2,ae ya yl yc],ab 0,ab 0])/\Hid (o y0 y1 y2 ya yl yc w')))(k:Hid (∀y0 y1 y2 ya yl yc W n,o y0 y1 y2 ya yl yc W->am W n->ao 38 #[.agg #[ab y0,ab y1,af y2,ae ya yl yc]] n λe w'=>∃a l c,e=.returned (.tuple #[ae a l c,ab 0])/\Hid (i a l c w'))):ao 19 #[] w λe w'=>∃a l c,e=.returned (ae a l c)/\Hid (i a l c w'):=by
 subst r;go_enter func19,ntmps19;go_wp2_with fail;refine m.mono ?_;rintro e h ⟨y0,y1,y2,ya,yl,yc,rfl,j⟩;clear m;go_upto_region 2 with fail;generalize g:h.alloc _=b;have q:=aq (k _ _ _ _ _ _ _ b j (by rw[<-g];exact aS _ _));have d:b.heap[h.heap.size]?=some (.cells #[ab y0,ab y1,af y2,ae ya yl yc] 31):=by
  rw[<-g];exact aD _ _
 generalize h.heap.size=f at*;have t:ah b f 0 (ab y0):=ai d 0;have u:ah b f 1 (ab y1):=ai d 1;have v:ah b f 2 (af y2):=ai d 2;have x:ah b f 3 (ae ya yl yc):=ai d 3;clear g d k j;go_wp2_with fail;refine q.mono ?_;rintro e y ⟨a,l,c,rfl,p⟩;go_wp2_with fail
 go_ret
 exact⟨a,l,c,rfl,p⟩
theorem Jf(p:Int)(s:ap)(w:ag)(u:Int->Int->ap->au->Nat->Nat->ag->Prop)(C:Hid (∀W,am w W->w.heap.size<W.heap.size->ao 39 #[af s] W λe w'=>∃y0 y1 y2 ya yl yc,e=.returned (.tuple #[.agg #[ab y0,ab y1,af y2,ae ya yl yc],ab 0,ab 0])/\Hid (am W w'/\∀j,bB (λq=>q=w.heap.size) w' j->u y0 y1 y2 ya yl yc j))):ao 22 #[ab p,af s] w λe w'=>∃y0 y1 y2 ya yl yc,e=.returned (.agg #[ab 3,ab p,ab 0,ab y0,ab y1,af y2,ae ya yl yc])/\Hid (u y0 y1 y2 ya yl yc w'/\am w w'):=by
 go_enter func22,ntmps22;go_upto_region 1 with fail;generalize A:w.alloc _=r;have n:am w r:=by rw[<-A];exact aS _ _
 have y:r.heap[w.heap.size]?=some (.cells #[ab 0,ab 0,ab 0,ab 0,ab 0,af .empty,ae none 0 0] 33):=by
  rw[<-A];exact aD _ _
 have z:=(aI.1 y).1;have D:=aq (C r n z);clear A C;go_wp2_with fail;refine D.mono ?_;rintro e g ⟨y0,y1,y2,ya,yl,yc,rfl,h⟩;clear D;go_upto_region 2 with fail;generalize B:g.alloc _=d;have i:am g d:=by rw[<-B];exact aS _ _
 have l:d.heap[g.heap.size]?=some (.cells #[ab y0,ab y1,af y2,ae ya yl yc] 31):=by
  rw[<-B];exact aD _ _
 have F:=h.1.size;have f:=(i.block w.heap.size (by omega)).trans ((h.1.block w.heap.size z).trans y);have N:w.heap.size≠g.heap.size:=by omega
 have HB:=aq (⟨n.trans ((h.1.trans (i.mono F)).mono n.size),h,aR i _⟩:am w d/\Hid (am r g/\∀j,bB (λq=>q=w.heap.size) g j->u y0 y1 y2 ya yl yc j)/\bB (λq=>q=w.heap.size) g d);generalize O:w.heap.size=a at*;generalize g.heap.size=q at*;have I:ah d q 0 (ab y0):=ai l 0;have J:ah d q 1 (ab y1):=ai l 1;have K:ah d q 2 (af y2):=ai l 2;have L:ah d q 3 (ae ya yl yc):=ai l 3;have d0:ah d a 0 (ab 0):=ai f 0;have d1:ah d a 1 (ab 0):=ai f 1;have d2:ah d a 2 (ab 0):=ai f 2;have d3:ah d a 3 (ab 0):=ai f 3;have d4:ah d a 4 (ab 0):=ai f 4;have d5:ah d a 5 (af .empty):=ai f 5;have d6:ah d a 6 (ae none 0 0):=ai f 6;have M:∀k,d.frozen? ⟨a,k,none⟩=false:=λk=>by simp[World.frozen?,f]
 clear B i l f h y z F n;go_wp2_with fail;obtain⟨o,h,i⟩:=HB;have x:bB (λb=>b=a) d (((((((d.setCell ⟨a,0,none⟩ (ab 3)).setCell ⟨a,1,none⟩ (ab p)).setCell ⟨a,2,none⟩ (ab 0)).setCell ⟨a,3,none⟩ (ab y0)).setCell ⟨a,4,none⟩ (ab y1)).setCell ⟨a,5,none⟩ (af y2)).setCell ⟨a,6,none⟩ (ae ya yl yc)):=by
  have t:∀{E b c:ag},bB (λq=>q=a) E b->bB (λq=>q=a) b c->bB (λq=>q=a) E c:=λG k=>G.trans k λ_ _ m=>m;exact t (t (t (t (t (t (bK _ _ _ _) (bK _ _ _ _)) (bK _ _ _ _)) (bK _ _ _ _)) (bK _ _ _ _)) (bK _ _ _ _)) (bK _ _ _ _)
 refine ay (v:=.agg #[ab 3,ab p,ab 0,ab y0,ab y1,af y2,ae ya yl yc]) (by simp[results,results22,go_sem,d0,d1,d2,d3,d4,d5,d6]) rfl ⟨y0,y1,y2,ya,yl,yc,rfl,h.2 _ (i.trans x λ_ _ m=>m),?_⟩
 first|exact(o.trans (x.below (by have:=o.size;omega) λb H m=>by omega)).mono (by omega)|exact o.trans (x.below (by have:=o.size;omega) λb H m=>by omega)
theorem Je(x:Nat)(g n c:Nat)(kd f h i k:Nat->Int)(l:Nat->ap)(xa:Nat->au)(m xc:Nat->Nat)(w:ag)(K:Nat->ag->Prop)(I:n<=1000)(s:Hid (K 0 w))(o:Hid (∀j W,j<n->K j W->(ah W g (j*7) (ab (kd j))/\ah W g (j*7+1) (ab (f j))/\ah W g (j*7+2) (ab (h j))/\ah W g (j*7+3) (ab (i j))/\ah W g (j*7+4) (ab (k j))/\ah W g (j*7+5) (af (l j))/\ah W g (j*7+6) (ae (xa j) (m j) (xc j)))/\Hid (∀u,am W u->ao 8 #[aH x,.agg #[ab (kd j),ab (f j),ab (h j),ab (i j),ab (k j),af (l j),ae (xa j) (m j) (xc j)]] u λe w'=>e=.returned (ab 0)/\Hid (K (j+1) w')))):ao 21 #[aH x,ae (some ⟨g,0,none⟩) n c] w λe w'=>e=.returned (.bool true)/\Hid (K n w'):=by
 go_enter func21,ntmps21;go_wp2_with fail;go_loopw [6,9] (λ_ r wr=>∃(j:Nat),j<=n/\r=ab j/\Hid (K j wr)) (λ_ r _=>n-(intOf r).toNat)
 case atStart=>exact⟨0,aM _,rfl,s⟩
 case round=>
 clear s;obtain⟨j,H,rfl,p⟩:=hrel;by_cases v:j<n
 ·obtain⟨⟨A,B,C,D,E,F,G⟩,t⟩:=o.out j _ v p;have J:(0:Int)<=(j:Int):=by omega
  have L:(j:Int)<(n:Int):=by omega
  clear o p;go_upto_region 4 with fail;generalize q:World.alloc _ _=a;have b:a.heap[wr.heap.size]?=some (.cells #[ab (kd j),ab (f j),ab (h j),ab (i j),ab (k j),af (l j),ae (xa j) (m j) (xc j)] 33):=by
   rw[<-q];exact aD _ _
  have z:=aq (t a (by rw[<-q];exact aS _ _));generalize wr.heap.size=d at*;have d0:ah a d 0 (ab (kd j)):=ai b 0;have d1:ah a d 1 (ab (f j)):=ai b 1;have d2:ah a d 2 (ab (h j)):=ai b 2;have d3:ah a d 3 (ab (i j)):=ai b 3;have d4:ah a d 4 (ab (k j)):=ai b 4;have d5:ah a d 5 (af (l j)):=ai b 5;have d6:ah a d 6 (ae (xa j) (m j) (xc j)):=ai b 6;clear q b t A B C D E F G;go_wp2_with fail;refine z.mono ?_;rintro e M ⟨rfl,y⟩;go_wp2_with fail;go_roundw
  case rel=>exact⟨j+1,by omega,by go_num,y⟩
  case measure=>simp[intOf];omega
 obtain rfl:j=n:=by omega
 clear o H v;go_wp2_with fail
 go_ret
 exact⟨rfl,p⟩
def zi(w:ag)(a:au)(L c:Nat)(W:ag):Prop:=∃(M:Nat)(q:List (Bh (M+1))),q.length=L/\am w W/\(L<=c/\c<=maxLen)/\gG (M+1) W.heap.size W a q/\mF M q=0/\aB (M+6) (cg M q) 7 (cg 1 fY)=true
theorem Hg{n:Nat}{l:List (Bh (n+1))}(g:mF n l=0){m:Nat}{y0 y1:Int}{y2:ap}{ya:au}{yl yc:Nat}{W:ag}(o:∃x:Tm (m+1),(x.1=(y0,y1,y2)/\x.2.1=(ya,yc)/\x.2.2.length=yl)/\aB (m+1) x (n+6) (cg n l)=true/\In W.heap.size W (m+1) x):ao 38 #[.agg #[ab y0,ab y1,af y2,ae ya yl yc]] W λe w'=>∃a L c,e=.returned (.tuple #[ae a L c,ab 0])/\Hid (am W w'/\∃q:List (Bh (m+1)),q.length=L/\(L<=c/\c<=maxLen)/\gG (m+1) w'.heap.size w' a q/\mF m q=0/\aB (m+6) (cg m q) (n+6) (cg n l)=true):=by
 obtain⟨⟨⟨w,y,z⟩,⟨A,B⟩,C⟩,⟨f1,f2,f3⟩,d,p⟩:=o;simp only[eC]at f1 f2;obtain⟨rfl,rfl,rfl⟩:=f1;obtain⟨rfl,rfl⟩:=f2;subst f3;have b:=(bZ d).trans (fE g).2.1;obtain⟨D,f,j,_⟩:=Ls m (m+1) n (av _) l (fE g).1 _ (qy b) d;have hF:BI m (m+1) ((w,y,z),(A,B),C)=0:=by
  unfold BI;rw[if_pos b,f];unfold BJ;simp only[j,de]
 have h:=BK m (m+1) (av _) _ W.heap.size W p (fw b) (av _);rw[hF]at h;refine h.mono ?_;rintro e w' ⟨q,a,c,rfl,k⟩;obtain⟨s,t,u,_,_,v⟩:=k;obtain⟨E,i,r⟩:=v rfl;rw[f]at i;obtain rfl:=az i;obtain⟨_,t2,t3,_⟩:=yB (av _) b f r j;rw[(fE t2).2.2]at t3;exact⟨a,q.length,c,rfl,s,q,rfl,t,u,t2,bP _ _ _ _ _ _ t3 d⟩
theorem Ja(w:ag):ao 19 #[] w λe w'=>∃a l c,e=.returned (ae a l c)/\Hid (zi w a l c w'):=by
 refine E9 L8 rfl w (λy0 y1 y2 ya yl yc d=>am w d/\∃(b:Nat)(x:Tm (b+1)),(x.1=(y0,y1,y2)/\x.2.1=(ya,yc)/\x.2.2.length=yl)/\aB (b+1) x 7 (cg 1 fY)=true/\In d.heap.size d (b+1) x) (zi w) ((Co N4 qW.1 w).mono ?_) λy0 y1 y2 ya yl yc d u ⟨h,b,x,p,r,q⟩ g=>?_
 ·rintro e w' ⟨b,x,rfl,f⟩;obtain⟨m,n,_,o⟩:=f.out;exact⟨_,_,_,_,_,_,rfl,o,b,x,⟨rfl,rfl,rfl⟩,m,n⟩
 ·refine(Hg Kj ⟨x,p,r,(q.below g).mono g.size⟩).mono ?_;rintro e w' ⟨a,j,c,rfl,f⟩;obtain⟨s,t,k⟩:=f;have i:=h.trans (g.mono h.size);exact⟨a,j,c,rfl,b,t,k.1,i.trans (s.mono i.size),k.2⟩
def uQ(w0:ag)(s:Sy)(i a:Nat)(W:ag):Prop:=∃(p:lB)(d:gz),p.b=a/\bz p s d W/\(p.room=60/\aB (p.n+6) (cg p.n p.prog) 7 (cg 1 fY)=true)/\(d.k<=i*402/\d.es.length<=i*201/\d.wn<=i*201/\d.bn<=i*201)/\am w0 W/\w0.heap.size<=p.lo
theorem LY(w0:ag){a:au}{L c:Nat}{W:ag}(m:zi w0 a L c W):ao 18 #[ae a L c,ab 60] W λe w'=>∃i,e=.returned (.tuple #[aH i,ab 0])/\Hid (uQ w0 Mw 0 i w'):=by
 obtain⟨k,s,rfl,d,g,n,f,o⟩:=m;refine(CQ k s a c 60 W n g.1 g.2 λ_=>fw (fE f).2.1).mono ?_;rintro e w' ⟨E,x,rfl,j⟩;obtain⟨p,q,_,r⟩:=j;have y:x=0:=by
  rw[p];unfold mq;rw[if_neg (by rw[f];decide),if_pos (by decide)]
 subst y;obtain⟨h,l,rfl,t,⟨z,u,A,B⟩,v,C,D,w⟩:=r rfl;exact⟨h.b,rfl,h,l,rfl,t,⟨v,bP _ _ _ _ _ _ w o⟩,⟨by omega,by rw[u];exact aM _,by omega,by omega⟩,d.trans (q.mono d.size),by have:=d.size;omega⟩
end Go.Proofs.YtmmahddlcldmiaaGreat
