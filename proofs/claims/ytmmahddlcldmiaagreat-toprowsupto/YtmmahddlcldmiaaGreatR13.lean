/- Proved here: plain facts and contracts. No condition but what each names. -/
import Derived.Test.YtmmahddlcldmiaaGreatR11
import Derived.Test.YtmmahddlcldmiaaGreatR12
import Derived.Test.YtmmahddlcldmiaaGreatR10
import Derived.Deep.RegionWith
import Derived.Deep.CutBlock
namespace Go.Proofs.YtmmahddlcldmiaaGreat
open Go.RowKit Go.Maps Go.Shelf Go.Lib Go.Sort Go.Proofs.Tryz
open Go.RowKit Go.Maps
open Go.RowKit
set_option maxRecDepth 100000
def sW(x:Int×Int):List au:=[ab x.1,ab x.2]
def gT(a:List xq):List (Int×Int):=a.map (·.1)
theorem wv:(a:List xq)->(t:Nat)->t<a.length*2->(fE a)[t]?=some ((sW (gT a).toArray[t / 2]!)[t % 2]!)
 | [],t,h=>by simp at h
 | k::a,0,_=>rfl
 | k::a,1,_=>rfl
 | k::a,t+2,h=>by
  have ih:=wv a t (by simp at h;omega);have e:fE (k::a)=[ab k.1.1,ab k.1.2]++fE a:=rfl;rw[e,dR (by simp)];have b:t+2- [Value.int .i64 k.1.1,Value.int .i64 k.1.2].length=t:=by simp
  rw[b,ih,show (t+2) / 2=t / 2+1 by omega,show (t+2) % 2=t % 2 by omega];have c:(gT (k::a)).toArray[t / 2+1]! =(gT a).toArray[t / 2]! :=by
   simp[gT]
  rw[c]
theorem KC{base g c:Nat}{a:List xq}{w:ag}(f:w.ownsRow base 44 2 (ae (some ⟨g,0,none⟩) a.length c) a.length (fE a)):HoldsK sW 2 w g 0 (gT a).toArray:=by
 intro e i;have l:(flatK sW 2 (gT a).toArray).size=a.length*2:=by simp[flatK,gT]
 rw[l]at i;refine⟨?_,?_⟩
 ·have h:=f.cells (g:=g) rfl e _ (wv a e i);rw[eU]at h;rw[h];have j:=get_flatK sW 2 (gT a).toArray e (by simp[gT];omega);rw[<-j];rfl
 ·rcases f.2 with⟨d,_⟩|⟨n,cap,m,d,_,k,_⟩
  ·cases d
  ·injection d with b _ _;injection b with b;injection b with b _;subst b;simp[World.frozen?,k]
def xp(v:au)(l:List (Int×Int))(w:ag):Prop:=
 ∃d c,v=ae d l.length c/\(l=[]\/∃a,d=some ⟨a,0,none⟩/\a<w.heap.size/\∀b k,l[b]?=some k->w.cell? ⟨a,b*2,none⟩=some (ab k.1)/\w.cell? ⟨a,b*2+1,none⟩=some (ab k.2))
theorem xp.later{v:au}{l:List (Int×Int)}{w w':ag}(a:xp v l w)(f:am w w'):xp v l w':=by
 obtain⟨i,c,d,a⟩:=a;refine⟨i,c,d,?_⟩;rcases a with a|⟨e,d,g,a⟩
 ·exact aj a
 ·exact ak ⟨e,d,aW g f.size,λb k h=>⟨(f.cell (p:=⟨e,b*2,none⟩) g).trans (a b k h).1,(f.cell (p:=⟨e,b*2+1,none⟩) g).trans (a b k h).2⟩⟩
def JD(x y:Int×Int):Prop:=x.1<y.1\/x.1=y.1/\x.2<y.2
theorem vV(x y:Int×Int):ltOf jN x y=true ↔ JD x y:=by
 unfold ltOf JD;rw[decide_eq_true_iff,MW]
theorem mZ(x y:Int×Int):ltOf jN x y=false ↔¬JD x y:=by
 rw[<-vV];cases ltOf jN x y<;>simp
theorem QU:SWO (ltOf jN) where
 irrefl x:=by rw[mZ];unfold JD;omega
 trans x y z h1 h2:=by rw[vV]at*;unfold JD at*;omega
 ntrans x y z h1 h2:=by rw[mZ]at*;unfold JD at*;omega
def Oo{N:Nat}(f:Int×Int->List (Tm N))(l:List (Int×Int)):Prop:=l.Pairwise JD/\∀k,k∈l ↔ I2 k/\f k≠[]
theorem CW{N:Nat}{f:Int×Int->List (Tm N)}{e:List xq}(p:e.Pairwise (λa b=>a≠b))(m:∀k,(∃x∈e,x.1=k) ↔ I2 k/\f k≠[]):Oo f ((gT e).mergeSort λx y=> !(ltOf jN) y x):=by
 have s:∀a b c:Int×Int,(!(ltOf jN) b a)=true->(!(ltOf jN) c b)=true->(!(ltOf jN) c a)=true:=λa b c i h=>by
  simp only[ld,mZ]at*;unfold JD at*;omega
 have r:∀a b:Int×Int,((!(ltOf jN) b a) || (!(ltOf jN) a b))=true:=λa b=>by
  cases d:ltOf jN b a
  ·simp
  ·have i:=(vV b a).1 d;have h:ltOf jN a b=false:=(mZ a b).2 (by unfold JD at*;omega);simp[h]
 have q:=List.pairwise_mergeSort s r (gT e);have j:=List.mergeSort_perm (gT e) (λx y=> !(ltOf jN) y x);have n:(gT e).Pairwise (λa b=>a≠b):=List.pairwise_map.2 (p.imp λd g=>d (Subtype.ext g));have o:=(j.symm.pairwise_iff (λ{a b}(d:a≠b)=>d.symm)).1 n;refine⟨?_,λk=>?_⟩
 ·have l:=q.and o;refine l.imp λ{a b} d=>?_;obtain⟨i,h⟩:=d;simp only[ld,mZ]at i;have:¬(a.1=b.1/\a.2=b.2):=λg=>h (fO g.1 g.2);unfold JD at*;omega
 ·rw[j.mem_iff,<-m k];simp[gT]
theorem EW(w:ag)(g n:Nat)(d:Array (Int×Int))(os:Array Obj)(b:Nat)(e:b<w.heap.size)(c:b≠g):(sortWorldK sW 2 w g 0 n d os).heap[b]?=w.heap[b]? :=by
 unfold sortWorldK;have f:(putRowK sW 2 (Sort.ahead w n) g 0 d).heap.size=w.heap.size:=by simp[putRowK,putRow,Sort.mapBlock,Sort.ahead]
 rw[heap_grow_old _ _ (by omega)];have:g≠b:=λa=>c a.symm;simp[putRowK,putRow,Sort.mapBlock,Sort.ahead,bT,this]
theorem wN(w:ag)(g n base:Nat)(d:Array (Int×Int))(os:Array Obj)(c:base<=g)(e:base<=w.heap.size):Below base w (sortWorldK sW 2 w g 0 n d os):=by
 refine⟨rfl,rfl,rfl,?_,λb a=>EW w g n d os b (by omega) (by omega)⟩;simp[sortWorldK,grow,putRowK,putRow,Sort.mapBlock,Sort.ahead]
theorem MJ(w:ag):(isAgg 44).run Tryz.prog w=.ok true w:=by kernel_rfl
theorem LJ(w:ag):(Go.sizeOf 44).run Tryz.prog w=.ok 2 w:=by kernel_rfl
theorem I1(base:Nat)(a:List xq)(v:au)(w:ag)(G:a.length<=1000000)(m:base<=w.heap.size)(t:w.ownsRow base 44 2 v a.length (fE a)):ao 94 #[v,.func (.func 62) #[] #[]] w λe w'=>e=.returned (.tuple #[])/\xp v ((gT a).mergeSort λx y=> !(ltOf jN) y x) w'/\Below base w w':=by
 have s:((gT a).mergeSort λx y=> !(ltOf jN) y x).length=a.length:=by rw[List.length_mergeSort];simp[gT]
 rcases t.2 with⟨rfl,e⟩|⟨b,cap,E,rfl,p,D,H⟩
 ·have f:a=[]:=bL e;subst f;refine(wO _ w).mono ?_;rintro e w' ⟨rfl,rfl⟩;exact⟨rfl,⟨none,0,by simp[gT],aj (by simp[gT])⟩,aA _ _⟩
 ·have C:=(aI.1 D).1;have h:(gT a).toArray.size=a.length:=by simp[gT]
  have l:=KC t
  have o:=Tryz.slices_SortFunc_total 2 MJ LJ sW (λ_=>rfl) (λx v u=>by simp[sW]at u;rcases u with rfl|rfl<;>rfl) jN QU 62 #[] b 0 cap (gT a).toArray w (enters_of func62 (by kernel_rfl) rfl) (λJ os F _ x y=>Fr x y _) l C (by rw[h];omega) (λx y d j=>by
   rw[mZ]at d j;unfold JD at d j
   exact fO (by omega) (by omega))
  rw[h]at o;refine o.mono ?_;rintro e w' ⟨rfl,n,os,rfl⟩;have B:((gT a).mergeSort λx y=> !(ltOf jN) y x).toArray.size=(gT a).toArray.size:=by
   rw[ew,s,h]
  have I:(putRowK sW 2 (Sort.ahead w n) b 0 ((gT a).toArray.toList.mergeSort λx y=> !(ltOf jN) y x).toArray).heap.size=w.heap.size:=by simp[putRowK,putRow,Sort.mapBlock,Sort.ahead]
  have q:=holdsK_grow (enc:=sW) (k:=2) (putRowK sW 2 (Sort.ahead w n) b 0 ((gT a).toArray.toList.mergeSort λx y=> !(ltOf jN) y x).toArray) os b 0 _ (by omega) (holdsK_putRowK (enc:=sW) (k:=2) (Sort.ahead w n) b 0 (gT a).toArray _ l B);refine⟨rfl,⟨some ⟨b,0,none⟩,cap,by rw[s],ak ⟨b,rfl,?_,λi k f=>?_⟩⟩,wN w b n base _ os p m⟩
  ·have:=(wN w b n base ((gT a).toArray.toList.mergeSort λx y=> !(ltOf jN) y x).toArray os p m).size;omega
  ·have r:=(aZ.1 f).1;have g:=(q.cell (i:=i) (c:=0) (by simpa using r) (by omega)).1;have d:=(q.cell (i:=i) (c:=1) (by simpa using r) (by omega)).1;have z:((gT a).toArray.toList.mergeSort λx y=> !(ltOf jN) y x).toArray[i]! =k:=by
    have A:((gT a).mergeSort λx y=> !(ltOf jN) y x)[i]?=some k:=f;simp only[List.getElem!_toArray];rw[List.getElem!_eq_getElem?_getD,A];rfl
   rw[z]at g d;simp only[cT,iY]at g d;exact⟨g,d⟩
theorem KS:(l r:List Lit)->l.Pairwise (λa b=>a≠b)->(∀x∈l,x∈r)->l.length<=r.length:=by
 letI:DecidableEq Lit:=λa b=>Classical.propDecidable (a=b);intro l
 induction l with
 | nil=>exact λ_ _ _=>aM _
 | cons a l ih=>
  intro r i d;obtain⟨g,h⟩:=List.pairwise_cons.1 i;have c:=d a (by simp);have j:=ih (r.erase a) h λx e=>(List.mem_erase_of_ne (λf=>g x e f.symm)).2 (d x (by simp[e]));rw[List.length_erase_of_mem c]at j;have:=List.length_pos_of_mem c;simp only[bA];omega
theorem EX(c b t:Nat)(D:DataW au)(w:ag)(E:c<w.heap.size)(q:ai w c 0 (.map (some b)))(h:w.ownsMap Tryz.prog 44 l7 b t D)(d:Maps.size D<=1000000):ao 60 #[.func (.func 95) #[] #[aH c],.func (.func 62) #[] #[]] w λe w'=>∃v a,e=.returned v/\Hid (nK D a/\xp v ((gT a).mergeSort λx y=> !(ltOf jN) y x) w'/\am w w'/\a.length<=1000000):=by
 have o:∀a:List xq,nK D a->a.length<=1000000:=λa m=>by
  obtain⟨es,rfl,N,M⟩:=h.entries dI;have C:= @KS (a.map λk=>kl k.1) (es.map (·.1)) (List.pairwise_map.2 (m.1.imp λ{B b} F e=>F (Subtype.ext (mH B.2 b.2 e)))) λx J=>by
   obtain⟨k,G,rfl⟩:=cu.1 J;have p:=(m.2 _).2 ⟨k,G,rfl⟩;rw[has_eq]at p;obtain⟨K,H,e⟩:=List.any_eq_true.1 p;exact cu.2 ⟨K,H,WideAt.sameKey_eq e⟩
  simp[Maps.size]at d;simp at C;omega
 have i:Hid (ao 137 #[ae none 0 0,.func (.func 95) #[] #[aH c]] w λe w'=>∃(v:au)(a:List xq),e=.returned v/\nK D a/\w'.ownsRow w.heap.size 44 2 v a.length (fE a)/\am w w'):=
  lB.1 (GF Fence.wide 5 trivial rfl (by omega) 95 #[aH c] trivial (enters_of func95 (by kernel_rfl) rfl) (nK D) (Maps.size D) d w (Eg Fence.wide 4 trivial rfl (by omega) c b t D w E q h))
 have z:Hid (ao 93 #[.func (.func 95) #[] #[aH c]] w λe w'=>∃(v:au)(a:List xq),e=.returned v/\nK D a/\w'.ownsRow w.heap.size 44 2 v a.length (fE a)/\am w w'):=by
  unfold Hid;go_enter func93,ntmps93;go_wp2_with fail;refine i.mono ?_;rintro e w' ⟨v,a,rfl,I⟩;go_wp2_with fail
  go_ret
  exact⟨v,a,rfl,I⟩
 clear i q h d;go_enter func60,ntmps60;go_wp2_with fail;refine z.mono ?_;rintro e L ⟨v,a,rfl,f,s,g⟩;have j:=ap f;have u:=ap g;have l:=ap (I1 w.heap.size a v L (o a f) g.size s);clear f s g;go_wp2_with fail;refine l.mono ?_;rintro e O ⟨rfl,r,n⟩;have A:=ap (⟨j,r,u.trans n,o a j⟩:_/\_/\_/\_);clear r n l;go_wp2_with fail
 go_ret
 exact⟨v,a,rfl,A⟩
theorem Hv(l a:Nat)(W:ag)(g:ai W a 0 (.map none)):ao 95 #[.func (.yield l) #[] #[],aH a] W λe b=>(∃v,e=.returned v)/\am W b:=by
 have d:=λc=>run_range_nilMap (P:=Tryz.prog) c 51 44 29 underlying51;have f:=λty=>run_next_nilMap (P:=Tryz.prog) W ty 0 0 #[];go_enter func95,ntmps95;go_wp2_with fail;refine lE 1 ?_;rw[jc];go_wp2_with fail;exact dL (v:=.tuple #[]) (by simp[results]) rfl ⟨⟨_,rfl⟩,aS _ _⟩
theorem Mj{base n N:Nat}{t:BL}{h:da}{f:Int×Int->List (Tm N)}{sl:Int×Int->au}{w:ag}(a:iF base t h n N f sl w)(P:n<=1000000):ao 32 #[.pointer (some ⟨t.b,t.o,none⟩)] w λe w'=>∃v l,e=.returned v/\Hid (Oo f l/\xp v l w'/\am w w'/\l.length<=1000000):=by
 have O:=a.cell.1;have C:Hid ((h=none/\f=λ_=> [])\/∃g c,h=some g/\w.ownsMap Tryz.prog 44 l7 g n c/\∀x,has c x=true ↔∃k,I2 k/\x=kl k/\f k≠[]):=by
  rcases a.2.2 with⟨e,F,_⟩|⟨g,e,K⟩
  ·exact aj ⟨e,F⟩
  ·obtain⟨c,G,_,H⟩:=K.map;exact ak ⟨g,c,e,G,H⟩
 clear a;go_enter func32,ntmps32;go_wp2_with fail;refine(KI h w).mono ?_;rintro e i ⟨rfl,p⟩;have j:Hid (am w i):=by
  rw[p];exact aS _ _
 have m:Hid (i.heap[w.heap.size]?=some (.cells #[.map h] 51)):=by
  rw[p];exact aD _ _
 have B:Hid (w.grownBy i none):=by
  rw[p];exact di w _ none
 clear p;go_wp2_with fail;rcases C with⟨rfl,rfl⟩|⟨g,c,rfl,r,y⟩
 ·refine(CX 95 #[aH w.heap.size] (enters_of func95 (by kernel_rfl) rfl) _ i (λl E I=>?_)).mono ?_
  ·exact Hv l w.heap.size E (ah ((I.block w.heap.size (aI.1 m).1).trans m) 0)
  ·rintro e M ⟨rfl,J⟩;go_wp2_with fail
   go_ret
   exact⟨_,[],rfl,⟨List.Pairwise.nil,λk=>⟨λa=>(by cases a),λa=>absurd rfl a.2⟩⟩,⟨none,0,rfl,aj rfl⟩,j.out.trans (J.mono j.out.size),aM _⟩
 ·have u:=ap y;have L:=r.size_le;have D:=ap (EX w.heap.size g n c i (aI.1 m).1 (ah m 0) (r.kept B (by simp)) (by omega));clear r y L;refine D.mono ?_;rintro e M ⟨v,R,rfl,d⟩;go_wp2_with fail
  go_ret
  refine⟨v,_,rfl,CW d.1.1 (λk=>?_),d.2.1,j.trans (d.2.2.1.mono j.size),by simpa [gT]using d.out.2.2.2⟩;constructor
  ·rintro ⟨x,s,rfl⟩;obtain⟨Q,A,e,q⟩:=(u _).1 ((d.1.2 _).2 ⟨x,s,rfl⟩);rw[mH x.2 A e];exact⟨A,q⟩
  ·rintro ⟨z,q⟩;obtain⟨x,s,e⟩:=(d.1.2 _).1 ((u _).2 ⟨k,z,rfl,q⟩);exact⟨x,s,(mH z x.2 e).symm⟩
theorem E8(a:Nat)(w:ag)(P:au->bt)(c:Hid (ao 32 #[.pointer (some ⟨a,4,none⟩)] w λe w'=>∃v,e=.returned v/\Hid (P v w'))):ao 14 #[aH a] w λe w'=>∃v,e=.returned v/\Hid (P v w'):=by
 go_enter func14,ntmps14;go_wp2_with fail;refine c.mono ?_;rintro e d ⟨v,rfl,b⟩;go_wp2_with fail
 go_ret
 exact⟨v,rfl,b⟩
theorem bC.ways{p:lG}{s:Sy}{d:gE}{w:ag}(a:bC p s d w)(m:d.wn<=1000000):ao 14 #[aH p.b] w λe w'=>∃v,e=.returned v/\Hid ((∃l,l.Pairwise JD/\(∀k,k∈l ↔ I2 k/\s.ways k≠[])/\xp v l w'/\l.length<=1000000)/\am w w'):=by
 refine E8 p.b w _ ((Mj a.wy.1 m).mono ?_);rintro e w' ⟨v,l,rfl,c⟩;obtain⟨⟨f,g⟩,h,i,j⟩:=c;refine⟨v,rfl,⟨l,f,λk=>(g k).trans (and_congr_right λ_=>not_congr ?_),h,j⟩,i⟩;rw[<-a.wy.2.2.1 k,List.map_eq_nil_iff]
def fX(n:Nat)(l:List (Bh (n+1)))(room:Int)(w0:ag)(i k h j c:Nat)(s:Sy)(f:aY->List Tc)(g:aY->Nat)(V:aO)(W:ag):Prop:=∃(p:lG)(d:gE)(a e:Nat)(sl:aY->au),p.b=k/\uU n l room w0.heap.size i p s d W/\(a<=c/\e<=c)/\GA w0.heap.size d.ow h j a e f sl g W/\(∀b,V b->b<W.heap.size/\d.ow b=0/\¬zW h sl b/\b≠j)/\am w0 W/\mK n l=0
section
variable {n:Nat} {l:List (Bh (n+1))} {room:Int} {w0 W W':ag} {i sb m1 m2 c:Nat} {s:Sy} {f:aY->List Tc} {g:aY->Nat} {V:aO}
theorem fX.later(r:fX n l room w0 i sb m1 m2 c s f g V W)(d:am W W'){V':aO}(w:∀b,V' b->V b\/W.heap.size<=b/\b<W'.heap.size):fX n l room w0 i sb m1 m2 c s f g V' W':=by
 obtain⟨x,p,m,o,sl,q,h,t,e,u,j,v⟩:=r;have y:=d.size;refine⟨x,p,m,o,sl,q,h.later d,t,e.later d,λb a=>?_,j.trans (d.mono j.size),v⟩;rcases w b a with a|a
 ·have:=u b a;exact⟨by omega,this.2⟩
 ·exact⟨a.2,h.1.nobody a.1,λk=>by have:=(e.sent.lt b k).2;omega,λk=>by have:=e.gone.lt;omega⟩
theorem fX.below(a:fX n l room w0 i sb m1 m2 c s f g V W):am w0 W:=by
 obtain⟨_,_,_,_,_,_,_,_,_,_,a,_⟩:=a;exact a
theorem fX.up(j:fX n l room w0 i sb m1 m2 c s f g V W){a:Nat}(q:c<=a):fX n l room w0 i sb m1 m2 a s f g V W:=by
 obtain⟨o,e,b,d,sl,h,k,p,m⟩:=j;exact⟨o,e,b,d,sl,h,k,⟨by omega,by omega⟩,m⟩
theorem fX.do(D:fX n l room w0 i sb m1 m2 c s f g V W)(R:i<=110){m:Nat}(x:Hn m)(k:Gw m w0.heap.size w0 x)(H:(aC (m+1) x.2).length<=2097152):ao 8 #[aH sb,.agg #[ab x.1.1,ab x.1.2.1,ab x.1.2.2,ab x.2.1.1,ab x.2.1.2.1,af x.2.1.2.2,ae x.2.2.1.1 x.2.2.2.length x.2.2.1.2]] W λe w'=>e=.returned (ab (s.do n l room x.1.1 x.1.2.1 x.1.2.2 (m+1) x.2).2)/\Hid (fX n l room w0 (i+1) sb m1 m2 c (s.do n l room x.1.1 x.1.2.1 x.1.2.2 (m+1) x.2).1 f g V w'/\Fz V W w'):=by
 obtain⟨J,Q,A,B,sl,rfl,d,E,F,p,j,q⟩:=D;have u:=k.2.below j;have r:=d.2.2.2.2;have I:=j.size;obtain⟨M,N,O,P⟩:=d.2.2.2.1;refine(d.1.do (kd:=x.1.1) (a:=x.1.2.1) (b:=x.1.2.2) ⟨k.1.2.1,k.1.2.2⟩ x.2 ⟨u.mono I,(In.offBelow u).mono λK h Z=>?_⟩ H (by omega) (by omega) (by omega) (by omega)).mono ?_
 ·have:=(d.1.low K (by omega)).1;omega
 ·rintro e w' ⟨Y,rfl,z⟩;obtain⟨t,C,v,w⟩:=z;rw[d.do_eq q]at t v;have G:=sD d.1 w r;obtain⟨o,y,S,T,U,X⟩:=w;refine⟨by rw[t],⟨J,C,A,B,sl,rfl,⟨v,d.2.1,d.2.2.1.do _ _ _ _ _,by omega,r⟩,E,F.sys o y,λb h=>?_,j.trans G,q⟩,zV o λb h L=>L (p b h).2.1⟩;have:=p b h;exact⟨aW this.1 o.size,(y b this.1).trans this.2.1,this.2.2⟩
theorem fX.app(u:fX n l room w0 i sb m1 m2 c s f g V W){k:aY}(p:I2 k)(I:c<=900000)(x:(f k).length<=100000){y:Tc}(m:(In W.heap.size W 13 y/\cD V 13 y)/\nR y):OE w0.heap.size m1 k (uk (gK 13 y)) (λw'=>fX n l room w0 i sb m1 m2 (c+1) s (fK f k (f k++ [y])) g V w'/\Fz V W w') W:=by
 obtain⟨B,t,q,r,sl,rfl,h,H,d,j,o,v⟩:=u;refine OZ d.sent p (by omega) x λK w=>?_;obtain⟨C,z,e,A⟩:=d.app p ⟨⟨m.1.1,m.1.2.mono λb a=>(j b a).2⟩,m.2⟩ (λJ a=>h.1.nobody a) w;refine⟨⟨B,t,q+1,r,C,rfl,⟨h.1.kept e λb a=>(d.ne b a).1,h.2⟩,⟨by omega,by omega⟩,z,λb a=>?_,o.trans (e.below o.size λb a y=>?_),v⟩,zV e λb a=>(j b a).2.2.1⟩
 ·obtain⟨D,E,F,G⟩:=j b a;exact⟨aW D e.size,E,λy=>by rcases A b y with y|y;exact F y;omega,G⟩
 ·have:=(d.sent.lt b y).1;omega
theorem fX.look(v:fX n l room w0 i sb m1 m2 c s f g V W){k:aY}(h:I2 k):∃a p,∀b,am W b->(Instr.lookup 52 (.map (some m2)) (pk k) false).run Tryz.prog b=.ok (ab (g k)) b/\(Instr.lookup 51 (.map (some m1)) (pk k) false).run Tryz.prog b=.ok (.slice a (f k).length p) b/\∀j y,(f k)[j]?=some y->(In b.heap.size b 13 y/\nR y)/\∃q,a=some ⟨q,0,none⟩/\dH b q (j*4) 13 y:=by
 obtain⟨G,A,x,z,sl,rfl,B,C,d,D,E,F⟩:=v;obtain⟨a,p,t⟩:∃a c,sl k=.slice a (f k).length c:=by
  rcases(d.sent.row k h).2 with⟨e,r⟩|⟨g,c,u,e,_⟩
  ·have:(f k).length=0:=r;exact⟨none,0,by rw[e,this]⟩
  ·exact⟨_,c,e⟩
 refine⟨a,p,λb w=>?_⟩;have d:=d.later w;have o:=d.sent.row k h;refine⟨d.gone.look h,by rw[<-t];exact d.sent.look h,λj y m=>⟨⟨(d.own k h y (aL m)).1.1,(d.own k h y (aL m)).2⟩,?_⟩⟩;unfold oA at o;rw[t]at o;rcases o.2 with⟨e,r⟩|⟨q,c,u,e,_⟩
 ·rw[bL (r:(f k).length=0)]at m;simp at m
 ·simp only[Value.slice.injEq]at e;obtain⟨rfl,_⟩:=e;have:=FW o j y m;rw[cT]at this;exact⟨q,rfl,this⟩
theorem fX.lt(a:fX n l room w0 i sb m1 m2 c s f g V W):m1<W.heap.size:=by
 obtain⟨m,h,d,e,sl,rfl,j,k,b,_⟩:=a;exact(b.sent.lt m1 (aj rfl)).2
theorem fX.sys(e:fX n l room w0 i sb m1 m2 c s f g V W):(s.ps.map (·.1)).Nodup/\∀k,∀t∈s.ways k,bJ 13 t=0/\aT 13 t=true:=by
 obtain⟨r,q,o,p,sl,rfl,a,_⟩:=e;refine⟨a.1.keys.2.1,λk t b=>?_⟩;rw[<-a.1.wy.2.2.1 k]at b;obtain⟨m,h,rfl⟩:=cu.1 b;obtain⟨d,j,_⟩:=a.1.wy.2.2.2.2 k m h;exact⟨nP d,(kN d).trans j⟩
theorem Lv{p:lG}{d:gE}(c:uU n l room w0.heap.size i p s d W)(j:am w0 W)(q:mK n l=0):fX n l room w0 i p.b W.heap.size (W.heap.size+1) 0 s (λ_=> []) (λ_=>0) (λ_=>False) ((W.alloc (.map #[] 0)).alloc (.map #[] 0)):=by
 have e:am W (W.alloc (.map #[] 0)):=aS _ _;have g:Below (W.alloc (.map #[] 0)).heap.size (W.alloc (.map #[] 0)) ((W.alloc (.map #[] 0)).alloc (.map #[] 0)):=aS _ _;have o:(W.alloc (.map #[] 0)).heap.size=W.heap.size+1:=by simp
 have f:=e.trans (g.mono e.size);have m:=j.size;have h:=CM.new (W.alloc (.map #[] 0));rw[o]at h;refine⟨p,d,0,0,λ_=>lZ,rfl,c.later f,⟨av _,av _⟩,⟨((GM.new W 13).kee (aR g λ_=>False) λ_ _ a=>a).rebase m,h,λb a=>?_,⟨by omega,c.1.nobody (by omega)⟩,λk t u r=>(by cases r)⟩,λb a=>a.elim,j.trans (f.mono m),q⟩;rcases a with rfl|⟨k,_,a⟩
 ·exact⟨c.1.nobody (av _),by omega⟩
 ·simp[lZ,Value.ownBlock]at a
theorem fX.ways(d:fX n l room w0 i sb m1 m2 c s f g V W)(y:i<=110):ao 14 #[aH sb] W λe w'=>∃v,e=.returned v/\Hid ((∃l,(∀k,k∈l ↔ I2 k/\s.ways k≠[])/\xp v l w'/\l.length<=1000000)/\am W w'):=by
 obtain⟨z,x,u,w,sl,rfl,a,_⟩:=d;obtain⟨p,q,r,t⟩:=a.2.2.2.1;refine(a.1.ways (by omega)).mono ?_;rintro e w' ⟨v,rfl,b⟩;obtain⟨⟨l,_,h,j,m⟩,o⟩:=b.out;exact⟨v,rfl,⟨l,h,j,m⟩,o⟩
theorem fX.cnt(x:fX n l room w0 i sb m1 m2 c s f g V W){k:aY}(q:I2 k)(H:c<=900000):∃(v0:au)(j:Nat)(w1:ag),(Instr.mapEntry 52 (.map (some m2)) (pk k)).run Tryz.prog W=.ok (.tuple #[v0,goInt j]) w1/\Fz V W w1/\(Instr.lookup 52 (.map (some m2)) (pk k) false).run Tryz.prog w1=.ok (ab (g k)) w1/\∃d,(Instr.entryStore 52 (.map (some m2)) (goInt j) (ab ((g k+1:Nat):Int))).run Tryz.prog w1=.ok () d/\fX n l room w0 i sb m1 m2 (c+1) s f (fK g k (g k+1)) V d/\Fz V W d:=by
 obtain⟨C,v,t,u,sl,rfl,o,G,e,m,p,y⟩:=x;obtain⟨v0,j,w1,z,r,I,A,B⟩:=e.gone.entry q (by omega);obtain⟨d,D,E,F,J⟩:=B w1 (g k+1) rfl;have h:=r.trans F λb _ w=>w;refine⟨v0,j,w1,z,zV r λb a=>(m b a).2.2.2,A.look q,d,D,⟨C,v,t,u+1,sl,rfl,⟨o.1.kept h λb a=>by rw[a];exact e.low.2,o.2⟩,⟨by omega,by omega⟩,e.cnt h (by simpa using E),λb a=>?_,p.trans (h.below p.size λb a K=>?_),y⟩,zV h λb a=>(m b a).2.2.2⟩
 ·have:=m b a;exact⟨by omega,this.2⟩
 ·have:=e.low.1;omega
theorem fX.events(p:fX n l room w0 i sb m1 m2 c s f g V W)(C:i<=110):ao 10 #[aH sb] W λe w'=>∃a b,e=.returned (ae a s.evs.length b)/\Hid (uX a s.evs.length b/\am W w'/\∃d,d.map JC=s.evs/\Gu (λq=>W.heap.size<=q/\q<w'.heap.size) a d w'):=by
 obtain⟨D,o,A,B,sl,rfl,h,_⟩:=p;obtain⟨v,w,y,z⟩:=h.2.2.2.1;refine(h.1.events (by omega)).mono ?_;rintro e w' ⟨a,b,rfl,m⟩;obtain⟨r,k,d,f1,f2,f3⟩:=m;have j:o.es.length=s.evs.length:=by rw[<-f2,dS,f1]
 rw[j]at k;exact⟨a,b,by rw[j],k,r,d,f2,f3.x λq t u=>⟨t,u⟩⟩
theorem fX.evs(b:fX n l room w0 i sb m1 m2 c s f g V W):s.evs.length<=i*201:=by
 obtain⟨j,h,d,e,sl,rfl,a,_⟩:=b;have:=a.2.2.2.1.2.1;rw[<-a.1.evt.1,dS];exact this
theorem fX.proc(p:fX n l room w0 i sb m1 m2 c s f g V W)(G:i<=110)(b:Int):ao 15 #[aH sb,ab b] W λe w'=>∃nm y0 y1 y2 ya yl yc ma h k m,e=.returned (.tuple #[af nm,.agg #[ab y0,ab y1,af y2,ae ya yl yc],ae ma h k,ab m])/\Hid (am W w'/\h<=20/\((s.get b=none/\m=4)\/∃nm cs a,s.get b=some (nm,cs,a)/\m=0/\(h=a.length/\h<=k)/\Gy (λq=>W.heap.size<=q/\q<w'.heap.size) a ma w')):=by
 obtain⟨H,o,E,F,sl,rfl,d,_⟩:=p;obtain⟨A,B,C,D⟩:=d.2.2.2.1;cases hg:s.get b with
 | none=>
  refine(d.1.procN hg).mono ?_;rintro e w' ⟨rfl,r⟩;exact⟨_,_,_,_,_,_,_,_,_,_,_,rfl,r,by omega,aj ⟨rfl,rfl⟩⟩
 | some v=>
  obtain⟨nm,cs,a⟩:=v;have t:a.length<=20:=by
   obtain⟨q,u⟩:∃q,dl o.l b=some q:=by
    have:=d.1.alive b;rw[hg]at this;exact gw.1 this
   obtain⟨_,_,_,e,_,w⟩:=d.1.ps b q u;rw[hg]at e;simp only[gZ,eH]at e;rw[e.2.2];exact w
  refine(d.1.procC hg (aF (d.2.2.1.get hg) (by decide)) (by omega)).mono ?_;rintro e w' ⟨y0,y1,y2,ya,yl,yc,ma,k,rfl,j⟩;exact⟨_,_,_,_,_,_,_,_,_,_,_,rfl,j.out.2,t,ak ⟨nm,cs,a,rfl,rfl,⟨rfl,j.out.1.2⟩,j.out.1.1.2.x λq y z=>⟨y,z⟩⟩⟩
end
theorem NR(a:Nat)(W:ag):(binOp .eql 27 (aH a) (.pointer none)).run Tryz.prog W=.ok (.bool false) W:=by kernel_rfl
theorem IS(W:ag):(binOp .eql 27 (.pointer none) (.pointer none)).run Tryz.prog W=.ok (.bool true) W:=by kernel_rfl
theorem Hq:(Tryz.prog.info? 31).map (λi=>(i.zero,i.size,i.bytes))=some (some (.agg #[ab 0,ab 0,af ⟨#[]⟩,ae none 0 0]),4,56):=by kernel_rfl
theorem Ny{nm:aq}{l:List UInt8}(a:nm≠⟨l.toArray⟩):(nm.toList==l)=false:=by
 rw[g9,cI];intro b;exact a (ByteArray.ext (by rw[<-b]))
theorem JR{base m:Nat}{a b:Int}{v0 v1 v2 v3:au}{R:bt}{W d:ag}(h:OE base m (a,b) [v0,v1,v2,v3] R W)(t:m<W.heap.size)(j:am W d):∃(sa:ar)(L sc:Nat)(xs:cX)(f:Nat)(e:ag),L<=100000/\base<=e.heap.size/\(Instr.mapEntry 51 (.map (some m)) (.agg #[ab a,ab b])).run Tryz.prog (d.alloc (.cells #[v0,v1,v2,v3] 31))=.ok (.tuple #[ae sa L sc,ab f]) e/\ Hid (e.ownsRow base 31 4 (ae sa L sc) L xs/\e.heap[d.heap.size]?=some (.cells #[v0,v1,v2,v3] 31)/\∀g c i,e.grownBy i (Value.slice sa L sc).ownBlock->i.ownsRow base 31 4 (ae (some ⟨g,0,none⟩) (L+1) c) (L+1) (xs++ [v0,v1,v2,v3])->((Value.slice sa L sc).ownBlock=some g\/g=e.heap.size)-> ∃k,(Instr.entryStore 51 (.map (some m)) (ab f) (ae (some ⟨g,0,none⟩) (L+1) c)).run Tryz.prog i=.ok () k/\R k):=by
 obtain⟨sa,L,sc,xs,l,s,h⟩:=h;have p:=j.size;obtain⟨f,e,o,u,r,n,q⟩:=h (d.alloc (.cells #[v0,v1,v2,v3] 31)) (j.alloc p _);have v:(d.alloc (.cells #[v0,v1,v2,v3] 31)).heap.size=d.heap.size+1:=by simp
 exact⟨sa,L,sc,xs,f,e,l,by omega,o,n,(r d.heap.size (by omega)).trans (aD d _),q⟩
def QI(L i:Nat)(j:ar)(g h:Int)(ma:ar)(c D:Nat)(k:ar)(f l:Nat)(t0 t1:Int)(t2:aq)(m:ar)(p n:Nat)(P:bt)(W:ag):Prop:=
 (g≠0\/h=0/\f=c->i=L+1/\∃b r s t u w v,(j=some ⟨b,0,none⟩/\(∀a,am W a->a.cell? ⟨b,L*7,none⟩=some (af j9)/\a.cell? ⟨b,L*7+3,none⟩=some (ab r)/\a.cell? ⟨b,L*7+3+1,none⟩=some (ab s)/\a.cell? ⟨b,L*7+3+2,none⟩=some (af t)/\a.cell? ⟨b,L*7+3+3,none⟩=some (ae u w v)))/\Hid (∀a,am W a->ao 16 #[.agg #[ab r,ab s,af t,ae u w v],.agg #[ab t0,ab t1,af t2,ae m p n]] a λd e=>d=.returned (.bool true)/\Hid (am W e/\P e)))/\
 (g=0->h=0->f≠c->(f=c+1/\f<=l)/\∃b o x y z A C B,(k=some ⟨b,o,none⟩/\(∀a,am W a->a.cell? ⟨b,o+c*4,none⟩=some (ab x)/\a.cell? ⟨b,o+c*4+1,none⟩=some (ab y)/\a.cell? ⟨b,o+c*4+2,none⟩=some (af z)/\a.cell? ⟨b,o+c*4+3,none⟩=some (ae A C B)))/\Hid (∀a,am W a->ao 17 #[ae k c l,ae ma c D] a λd e=>d=.returned (.bool true)/\Hid (am W e/\ao 16 #[.agg #[ab x,ab y,af z,ae A C B],.agg #[ab t0,ab t1,af t2,ae m p n]] e λd q=>d=.returned (.bool true)/\Hid (am W q/\P q))))/\
 (g=0->h≠0->L<i/\∃b,(j=some ⟨b,0,none⟩/\W.cell? ⟨b,L*7,none⟩=some (af tI)/\W.cell? ⟨b,L*7+2,none⟩=some (ab 3))/\Hid (P W))
def QH(j:Nat)(b:Int)(L:Nat)(t:Int)(ma:ar)(o n:Nat)(t0 t1:Int)(t2:aq)(q:ar)(s r:Nat)(P:bt)(W:ag):Prop:=
 ao 15 #[aH j,ab b] W λe l=>∃p u v w x z y h f i k,e=.returned (.tuple #[af p,.agg #[ab u,ab v,af w,ae x z y],ae h f i,ab k])/\f<=1000/\Hid (am W l/\∀c,am l c->ao 10 #[aH j] c λe m=>∃d a g,e=.returned (ae d a g)/\(L<=a/\a<=1000000/\uX d a g)/\Hid (am c m/\QI L a d t k ma o n h f i t0 t1 t2 q s r P m))
def QG(p m r:Nat)(a b:Int)(L:Nat)(q:Int)(ma:ar)(n l:Nat)(P:bt)(W:ag):Prop:=
 ∃(gk c f o:Nat)(t0 t1:Int)(t2:aq)(i:ar)(k j:Nat),(gk<f/\f<=100000)/\Hid (∀d,am W d->((Instr.lookup 52 (.map (some (m+1))) (.agg #[ab a,ab b]) false).run Tryz.prog d=.ok (ab gk) d/\(Instr.lookup 51 (.map (some m)) (.agg #[ab a,ab b]) false).run Tryz.prog d=.ok (ae (some ⟨c,0,none⟩) f o) d/\d.cell? ⟨c,gk*4,none⟩=some (ab t0)/\d.cell? ⟨c,gk*4+1,none⟩=some (ab t1)/\d.cell? ⟨c,gk*4+2,none⟩=some (af t2)/\d.cell? ⟨c,gk*4+3,none⟩=some (ae i k j))/\
  ∃(s:au)(h:Nat)(e g:ag),(Instr.mapEntry 52 (.map (some (m+1))) (.agg #[ab a,ab b])).run Tryz.prog d=.ok (.tuple #[s,ab h]) e/\(Instr.lookup 52 (.map (some (m+1))) (.agg #[ab a,ab b]) false).run Tryz.prog e=.ok (ab gk) e/\(∀c,W.heap.size<=c->c<d.heap.size->e.heap[c]?=d.heap[c]?)/\(Instr.entryStore 52 (.map (some (m+1))) (ab h) (ab ((gk:Int)+1))).run Tryz.prog e=.ok () g/\Hid ((∀c,c=r\/W.heap.size<=c->c<d.heap.size->g.heap[c]?=d.heap[c]?)/\QH p b L q ma n l t0 t1 t2 i k j P g))
def QF(e m r:Nat)(g:Obj)(kd a b:Int)(L:Nat)(v l:Int)(ma:ar)(k j:Nat)(P:Nat->bt)(W:ag):Prop:=
 ao 10 #[aH e] W λi d=>∃f c h,i=.returned (ae f c h)/\Hid (d.heap[r]?=some g/\(kd≠2\/v≠0->P c d)/\(kd=2->v=0->QG e m r a b L l ma k j (P c) d))
def Q6(base m s0 k:Nat)(h:ar)(Q:bt)(W:ag):Prop:=
 ∃(a:Nat)(wt:aq)(d b t0 t1:Int)(t2:aq)(e:ar)(g f:Nat),(h=some ⟨a,0,none⟩/\W.cell? ⟨a,s0*7+k*7,none⟩=some (af wt)/\W.cell? ⟨a,s0*7+k*7+1,none⟩=some (ab d)/\W.cell? ⟨a,s0*7+k*7+2,none⟩=some (ab b)/\W.cell? ⟨a,s0*7+k*7+3,none⟩=some (ab t0)/\W.cell? ⟨a,s0*7+k*7+4,none⟩=some (ab t1)/\W.cell? ⟨a,s0*7+k*7+5,none⟩=some (af t2)/\W.cell? ⟨a,s0*7+k*7+6,none⟩=some (ae e g f))/\m<W.heap.size/\Hid ((wt≠dV->∀c,am W c->Q c)/\(wt=dV->OE base m (d,b) [ab t0,ab t1,af t2,ae e g f] Q W))
def Q0(base i m r:Nat)(f:Obj)(kd a b:Int)(L s0 d:Nat)(e:ar)(v j:Int)(ma:ar)(h g:Nat)(P:Nat->bt)(W:ag):Prop:=
 ∃c:Nat->ag->Prop,c 0 W/\(∀k W,k<d-s0->c k W->Q6 base m s0 k e (c (k+1)) W)/\∀W,c (d-s0) W->QF i m r f kd a b L v j ma h g P W
def Qo(base e m r s0:Nat)(kd a b:Int)(x:au)(h:Obj)(P:Nat->bt)(W:ag):Prop:=
 ao 10 #[aH e] W λc q=>∃t f u,c=.returned (ae t f u)/\f<=1000000/\Hid (q.heap[r]?=some h/\ao 15 #[aH e,ab b] q λc s=>∃v y0 y1 y2 ya yl yc l i n o,c=.returned (.tuple #[af v,.agg #[ab y0,ab y1,af y2,ae ya yl yc],ae l i n,ab o])/\i<=1000/\Hid (s.heap[r]?=some h/\∀j,am s j->ao 8 #[aH e,x] j λc w=>∃p,c=.returned (ab p)/\Hid (ao 10 #[aH e] w λc y=>∃g d k,c=.returned (ae g d k)/\(s0<=d/\d<=1000000/\uX g d k)/\Hid (Q0 base e m r h kd a b f s0 d g p o l i n P y))))
def Q1(w0:ag)(m n:Nat)(a:ar)(W:ag):Prop:=
 ∃c:Nat->ag->Prop,c 0 W/\(∀k W,k<n->c k W->∃d o x f,(a=some ⟨d,o,none⟩/\W.cell? ⟨d,o+k*2,none⟩=some (ab x)/\W.cell? ⟨d,o+k*2+1,none⟩=some (ab f))/\Hid (∃(gk e h:Nat)(g:ar),(gk<e/\e<=100000)/\∀b,am W b->c (k+1) b/\(Instr.lookup 52 (.map (some (m+1))) (.agg #[ab x,ab f]) false).run Tryz.prog b=.ok (ab gk) b/\(Instr.lookup 51 (.map (some m)) (.agg #[ab x,ab f]) false).run Tryz.prog b=.ok (ae g e h) b))/\∀W,c n W->am w0 W
theorem Gy.mono{V V':aO}{e:List Tc}{ma:ar}{W:ag}(l:Gy V e ma W)(g:∀b,V b->V' b):Gy V' e ma W:=by
 obtain⟨q,m,n,p,a⟩:=l;refine⟨q,m,?_,p,λd c=>⟨(a d c).1,(a d c).2.1,(a d c).2.2.mono g⟩⟩;rcases n with h|⟨f,o,i,j,k⟩
 ·exact aj h
 ·exact ak ⟨f,o,i,g f j,k⟩
theorem Gu.mono{V V':aO}{a:ar}{g:List (aq×Int×Int×Tc)}{W:ag}(c:Gu V a g W)(i:∀b,V b->V' b):Gu V' a g W:=by
 refine⟨?_,λd f=>⟨⟨(c.2 d f).1.1,(c.2 d f).1.2.mono i⟩,(c.2 d f).2⟩⟩;rcases c.1 with e|⟨h,e,j,k,l⟩
 ·exact aj e
 ·exact ak ⟨h,e,i h j,k,l⟩
theorem Gu.at{V:aO}{a:ar}{c:List (aq×Int×Int×Tc)}{W:ag}(f:Gu V a c W){j:Nat}(m:j<c.length):∃e g,c[j]?=some e/\a=some ⟨g,0,none⟩/\((In W.heap.size W 13 e.2.2.2/\cD V 13 e.2.2.2)/\nR e.2.2.2)/\V g/\g<W.heap.size/\∀(t:Nat)(h:au),(DR e)[t]?=some h->ai W g (j*7+t) h:=by
 obtain⟨e,b⟩:∃e,c[j]?=some e:=⟨_,aN m⟩;rcases f.1 with d|⟨g,d,i,k,l⟩
 ·rw[d]at b;simp at b
 ·exact⟨e,g,b,d,f.2 e (aL b),i,k,l j e b⟩
theorem OE.mono{base m:Nat}{k:aY}{d:cX}{R a:bt}{W:ag}(i:OE base m k d R W)(o:∀w,R w->a w):OE base m k d a W:=by
 obtain⟨sa,e,sc,B,j,l,n⟩:=i;refine⟨sa,e,sc,B,j,l,λg p=>?_⟩;obtain⟨z,f,q,r,s,t,u⟩:=n g p;refine⟨z,f,q,r,s,t,λh c A v x y=>?_⟩;obtain⟨b,C,D⟩:=u h c A v x y;exact⟨b,C,o b D⟩
theorem ee.arr{g:aY->Nat}{s:Sy}(c:ee g s)(f:(s.ps.map (·.1)).Nodup)(h:∀k,∀t∈s.ways k,bJ 13 t=0/\aT 13 t=true){n:Nat}{prog:List (Bh (n+1))}{room kd a b:Int}{k:Nat}{x:Tm k}(e:kd=2)(d:(s.do n prog room kd a b k x).2=0):∃t,(tp (a,b) s.evs)[g (a,b)]?=some t/\ee (fK g (a,b) (g (a,b)+1)) (s.do n prog room kd a b k x).1/\MA s (s.do n prog room kd a b k x).1 a b t:=by
 subst e;exact c.arrive f h d
theorem ee.els{g:aY->Nat}{s:Sy}(f:ee g s){n:Nat}{prog:List (Bh (n+1))}{room kd a b:Int}{k:Nat}{x:Tm k}(i:kd≠2\/(s.do n prog room kd a b k x).2≠0):ee g (s.do n prog room kd a b k x).1:=by
 by_cases d:kd=2
 ·rcases i with c|c
  ·exact absurd d c
  ·subst d;have h:s.do n prog room 2 a b k x=s.arrive room a b:=by
    unfold Sy.do;rw[if_neg (by decide),if_pos rfl]
   rw[h]at c ⊢;unfold Sy.arrive at c ⊢;cases e:s.ways (a,b)with
   | nil=>exact f
   | cons t l=>
    rw[e]at c;exact absurd rfl c
 ·exact f.do d k x
theorem CV(k:aY)(l:List (aq×Int×Int×Tc))(j:Nat)(e:aq×Int×Int×Tc)(c:l[j]?=some e):tp k (l.take (j+1))=tp k (l.take j)++if e.1=dV/\(e.2.1,e.2.2.1)=k then [e.2.2.2]else []:=by
 rw[dF,c,uN];obtain⟨wt,a,b,t⟩:=e;exact congrArg (tp k (l.take j)++ ·) (AG k wt a b t)
theorem yV{x y:Tc}{W:ag}(b:In W.heap.size W 13 x)(c:In W.heap.size W 13 y)(a:aB 13 x 13 y=true):ao 16 #[.agg #[ab x.1.1,ab x.1.2.1,af x.1.2.2,ae x.2.1.1 x.2.2.length x.2.1.2],.agg #[ab y.1.1,ab y.1.2.1,af y.1.2.2,ae y.2.1.1 y.2.2.length y.2.1.2]] W λe w'=>e=.returned (.bool true)/\am W w':=by
 have k:=CK 13 x 13 y W.heap.size W b c (av _);rw[a]at k;exact k
theorem Em{V V':aO}{c:List Tc}{t:Tc}{h ma:ar}{s r:Nat}{W:ag}(x:Gy V (c++ [t]) h W)(y:Gy V' c ma W)(G:c.length<=20):ao 17 #[ae h c.length s,ae ma c.length r] W λe w'=>e=.returned (.bool true)/\am W w':=by
 obtain⟨ya,E,B,v,n⟩:=x;obtain⟨g,F,C,w,p⟩:=y;have D:(ya.take c.length).length=c.length:=by
  rw[dK,E,bz];omega
 have z:(ya.take c.length)=[]\/∃b o,h=some ⟨b,o,none⟩/\b<W.heap.size/\∀(f:Nat)(a:Tm 13),(ya.take c.length)[f]?=some a->dH W b (o+f*4) 13 a/\In W.heap.size W 13 a:=by
  rcases B with e|⟨m,o,i,u,j,l⟩
  ·exact aj (by rw[e,List.take_nil])
  ·refine ak ⟨m,o,i,j,λf a d=>?_⟩;have q:ya[f]?=some a:=by
    rw[jG]at d;split at d
    ·exact d
    ·cases d
   exact⟨l f a q,(n a (aL q)).2.1⟩
 have A:g=[]\/∃b o,ma=some ⟨b,o,none⟩/\b<W.heap.size/\∀(f:Nat)(a:Tm 13),g[f]?=some a->dH W b (o+f*4) 13 a/\In W.heap.size W 13 a:=by
  rcases C with e|⟨m,o,i,u,j,l⟩
  ·exact aj e
  ·exact ak ⟨m,o,i,j,λf a d=>⟨l f a d,(p a (aL d)).2.1⟩⟩
 have k:=qn 13 13 (CK 13) (ya.take c.length) g h ma s r W.heap.size W z A (by omega) (by omega) (av _);have es:(ya.take c.length).map (cn 13)=g.map (cn 13):=by
  rw[List.map_take,v,w];simp
 rw[tU _ g (λa d=>(n a (List.mem_of_mem_take d)).1) (λa d=>(p a d).1) es,D,F]at k;exact k
def PK(n:Nat)(l:List (Bh (n+1)))(room:Int)(w0:ag)(i a m:Nat)(s:Sy)(j s0:Nat)(W:ag):Prop:=∃f g,fX n l room w0 i a m (m+1) (s0+j) s f g (λ_=>False) W/\(∀k,I2 k->(f k).map (cn 13)=tp k (s.evs.take s0))/\(ee g s/\∀k,tp k (s.evs.take s0)=tp k s.evs)/\s0<=s.evs.length
def Dz(s:Sy)(b d:Int)(V:aO)(ma:ar)(c e:Nat)(W:ag):Prop:=(s.get b=none/\d=4)\/∃nm cs a,s.get b=some (nm,cs,a)/\d=0/\(c=a.length/\c<=e)/\Gy V a ma W
theorem Dz.fz{s:Sy}{b f:Int}{V:aO}{ma:ar}{e d:Nat}{W c:ag}(a:Dz s b f V ma e d W)(m:Fz V W c):Dz s b f V ma e d c:=by
 rcases a with a|⟨n,h,g,i,j,k,l⟩
 ·exact aj a
 ·exact ak ⟨n,h,g,i,j,k,l.fz m⟩
theorem Dz.mono{s:Sy}{b e:Int}{V V':aO}{ma:ar}{d c:Nat}{W:ag}(a:Dz s b e V ma d c W)(l:∀q,V q->V' q):Dz s b e V' ma d c W:=by
 rcases a with a|⟨m,g,f,h,i,j,k⟩
 ·exact aj a
 ·exact ak ⟨m,g,f,h,i,j,k.mono l⟩
theorem NN{s w:Sy}{a b H I:Int}{t:Tc}{y:Tc}{V V' aD:aO}{ma Z ae:ar}{F ay G aa:Nat}{M:List (aq×Int×Int×Tc)}{P:bt}{W:ag}(aS:MA s w a b t)(X:Dz s b H V ma F ay W)(Y:Dz w b I V' Z G aa W)(aX:F<=20)(N:M.map JC=w.evs)(an:Gu aD ae M W)(C:(In W.heap.size W 13 y/\nR y)/\cn 13 y=t)(U:∀h,am W h->P h):QI s.evs.length w.evs.length ae H I ma F ay Z G aa y.1.1 y.1.2.1 y.1.2.2 y.2.1.1 y.2.2.length y.2.1.2 P W:=by
 have a6:M.length=w.evs.length:=by rw[<-N,dS]
 have ak:(4:Int)≠0:=by decide
 have n:∀{h:ag}{g o:Nat}{R:au},am W h->g<W.heap.size->ai W g o R->ai h g o R:=λ{h g o R} aV N aQ=>(aV.cell (p:=⟨g,o,none⟩) N).trans aQ;have ao:∀f,M[s.evs.length]?=some f->∀ab,w.evs[s.evs.length]?=some ab->JC f=ab:=λf aR ab D=>by
  rw[<-N,dn,aR]at D;exact az D
 rcases aS with⟨x,z⟩|⟨a2,aI,u,x,z⟩|⟨⟨R,x⟩,z,l,ah⟩
 ·have T:w.evs.length=s.evs.length+1:=by rw[x,bz];rfl
  have ap:H=0->I=0/\G=F:=λq=>by
   rcases X with⟨_,c⟩|⟨a2,aI,u,aC,_,a8,_⟩
   ·exact absurd (c.symm.trans q) ak
   ·rcases Y with⟨c,_⟩|⟨Q,K,J,e,r,B,_⟩
    ·rw[z,aC]at c;cases c
    ·rw[z,aC]at e;cases e;exact⟨r,by omega⟩
  refine⟨λ_=>?_,λq D aY=>absurd (ap q).2 aY,λq D=>absurd (ap q).1 D⟩;obtain⟨f,g,e,rfl,⟨r,B⟩,_,m,v⟩:=an.at (j:=s.evs.length) (by omega);have A:=ao f e _ (by rw[x,dR (av _),gu];rfl);unfold JC at A;simp only[eH]at A;obtain⟨ad,_,_,a3⟩:=A;refine⟨T,g,f.2.2.2.1.1,f.2.2.2.1.2.1,f.2.2.2.1.2.2,f.2.2.2.2.1.1,f.2.2.2.2.2.length,f.2.2.2.2.1.2,⟨rfl,λh d=>⟨?_,n d m (v 3 _ rfl),n d m (v 4 _ rfl),n d m (v 5 _ rfl),n d m (v 6 _ rfl)⟩⟩,λh d=>?_⟩
  ·rw[<-ad];exact n d m (v 0 _ rfl)
  ·refine(yV ((r.1.below d).mono d.size) ((C.1.1.below d).mono d.size) (FP B C.1.2 (a3.trans C.2.symm))).mono ?_;rintro af a5 ⟨rfl,k⟩;have i:=d.trans (k.mono d.size);exact⟨rfl,i,U _ i⟩
 ·have q:H=0/\F=u.length/\Gy V u ma W:=by
    rcases X with⟨c,_⟩|⟨Q,K,J,e,r,B,m⟩
    ·rw[x]at c;cases c
    ·rw[x]at e;cases e;exact⟨r,B.1,m⟩
  have O:I=0/\(G=u.length+1/\G<=aa)/\Gy V' (u++ [t]) Z W:=by
   rcases Y with⟨c,_⟩|⟨Q,K,J,e,r,B,m⟩
   ·rw[z]at c;cases c
   ·rw[z]at e;cases e;rw[bz]at B;exact⟨r,B,m⟩
  obtain⟨rfl,rfl,aT⟩:=q;obtain⟨rfl,⟨rfl,aW⟩,al⟩:=O;refine⟨λc=>?_,λ_ _ _=>⟨⟨rfl,aW⟩,?_⟩,λ_ c=>absurd rfl c⟩
  ·rcases c with c|⟨_,c⟩
   ·exact absurd rfl c
   ·omega
  ·have aU:=al;obtain⟨aB,aJ,S,aK,aM⟩:=al;have aZ:u.length<aB.length:=by rw[aJ,bz];simp
   obtain⟨c,E⟩:∃c,aB[u.length]?=some c:=⟨_,aN aZ⟩;have a0:cn 13 c=t:=by
    have:=congrArg (λl=>l[u.length]?) aK;simp only[dn,E,nG,dR (av _),gu]at this;exact az this
   have aw:=aM c (aL E);rcases S with S|⟨g,o,rfl,_,L,aP⟩
   ·rw[S]at E;cases E
   obtain⟨aE,aF,aG,aH⟩:=aP _ c E;refine⟨g,o,c.1.1,c.1.2.1,c.1.2.2,c.2.1.1,c.2.2.length,c.2.1.2,⟨rfl,λh d=>⟨n d L aE,n d L aF,n d L aG,n d L aH⟩⟩,λh d=>?_⟩;refine(Em (aU.fz (gN d)) (aT.fz (gN d)) aX).mono ?_;rintro af a5 ⟨rfl,k⟩;have i:=d.trans (k.mono d.size);refine⟨rfl,i,?_⟩;refine(yV ((aw.2.1.below i).mono i.size) ((C.1.1.below i).mono i.size) (FP (aj aw.1) C.1.2 (a0.trans C.2.symm))).mono ?_;rintro af a7 ⟨rfl,a1⟩;have ax:=i.trans (a1.mono i.size);exact⟨rfl,ax,U _ ax⟩
 ·have O:I≠0:=by
    rcases Y with⟨_,c⟩|⟨Q,K,J,e,_⟩
    ·rw[c];exact ak
    ·rw[z]at e;cases e
  have q:H=0:=by
   rcases X with⟨c,_⟩|⟨Q,K,J,e,r,_⟩
   ·rw[x]at c;cases c
   ·exact r
  have T:s.evs.length<w.evs.length:=by rw[ah,bz];simp
  refine⟨λc=>?_,λ_ c=>absurd c O,λ_ _=>⟨T,?_⟩⟩
  ·rcases c with c|⟨c,_⟩
   ·exact absurd q c
   ·exact absurd c O
  ·obtain⟨f,g,e,rfl,_,_,m,v⟩:=an.at (j:=s.evs.length) (by omega);have A:=ao f e _ (by rw[ah,dR (av _),gu];rfl);unfold JC at A;simp only[eH]at A;obtain⟨ad,_,a4,_⟩:=A;refine⟨g,⟨rfl,?_,?_⟩,U W (aA _ _)⟩
   ·rw[<-ad];exact v 0 _ rfl
   ·rw[<-a4];exact v 2 _ rfl
theorem Pu{n:Nat}{l:List (Bh (n+1))}{room:Int}{w0 W:ag}{i I m c L:Nat}{s o:Sy}{f:aY->List Tc}{g:aY->Nat}{V:aO}{j r:Nat}{a b X:Int}{t:Tc}{ma:ar}{H R:Nat}(C:fX n l room w0 i I m (m+1) c o f g V W)(M:i<=110)(ay:c=o.evs.length+j)(ba:j<=100)(p:I2 (a,b))(E:∀k,I2 k->(f k).map (cn 13)=tp k o.evs)(P:(tp (a,b) s.evs)[g (a,b)]?=some t)(aw:s.evs.length=L)(y:∃q,o.evs=s.evs++q)(ax:ee (fK g (a,b) (g (a,b)+1)) o)(aq:MA s o a b t)(aC:Dz s b X V ma H R W)(aE:H<=20)(aG:V r):QG I m r a b L X ma H R (λW=>PK n l room w0 i I m o (j+1) o.evs.length W) W:=by
 subst aw ay;obtain⟨be,y⟩:=y;have a9:=C.evs;have az:∀k,I2 k->(f k).length<=o.evs.length:=λk p=>by
  rw[<-dS (cn 13),E k p];exact tB _ _
 obtain⟨d,v,aJ⟩:∃d,(f (a,b))[g (a,b)]?=some d/\cn 13 d=t:=by
  have e:((f (a,b)).map (cn 13))[g (a,b)]?=some t:=by
   rw[E _ p,y,uN,dB (aZ.1 P).1];exact P
  rw[dn]at e;obtain⟨d,h,ao⟩:=cG.1 e;exact⟨d,h,ao⟩
 have aI:=(aZ.1 v).1;have bb:=az _ p;obtain⟨bh,aQ,N⟩:=C.look p;obtain⟨_,aP,aF,_⟩:=(N W (aA _ _)).2.2 _ d v;subst aF;refine⟨g (a,b),aP,(f (a,b)).length,aQ,d.1.1,d.1.2.1,d.1.2.2,d.2.1.1,d.2.2.length,d.2.1.2,⟨aI,by omega⟩,λx D=>?_⟩;obtain⟨aK,aL,Q⟩:=N x D;obtain⟨⟨y1,y2⟩,q,O,d0,d1,d2,d3⟩:=Q _ d v;simp only[gZ,Addr.mk.injEq,and_true]at O;subst O;refine⟨⟨aK,aL,d0,d1,d2,d3⟩,?_⟩;have ad:=C.later D (V':=λq=>V q\/(W.heap.size<=q/\q<x.heap.size)) (λq u=>u);obtain⟨aT,aS,aU,ai,aX,al,A,K,J,w⟩:=ad.cnt p (by omega);refine⟨aT,aS,aU,A,ai,al,λq e h=>aX.2 q (ak ⟨e,h⟩) h,by rw[Int.natCast_add]at K;exact K,⟨λq e h=>?_,?_⟩⟩
 ·rcases e with rfl|e
  ·exact w.2 q (aj aG) h
  ·exact w.2 q (ak ⟨e,h⟩) h
 have aW:Fz V W A:=(gN D).trans ⟨w.1,λb e h=>w.2 b (aj e) h⟩;have B:=J.later (aA _ _) (V':=V) (λq u=>aj (aj u));unfold QH;refine(B.proc M b).mono ?_;rintro ah Z ⟨aN,aV,a0,a1,a2,a4,a3,S,U,T,Y,rfl,aa⟩;obtain⟨ka,bc,aH⟩:=aa.out;refine⟨aN,aV,a0,a1,a2,a4,a3,S,U,T,Y,rfl,by omega,ka,λbi G=>?_⟩;have F:=ka.trans (G.mono ka.size);refine((B.later F (V':=V) λq u=>aj u).events M).mono ?_;rintro ah wc ⟨ae,af,rfl,ab⟩;obtain⟨aR,kc,a8,am,an⟩:=ab.out;have z:=F.trans (kc.mono F.size);have aM:=G.trans (kc.mono G.size);refine⟨ae,_,af,rfl,⟨by rw[y,bz];omega,by omega,aR⟩,kc,?_⟩;have aD:Dz o b Y (λq=>A.heap.size<=q/\q<Z.heap.size) S U T wc:=Dz.fz (W:=Z) aH (gN aM);have au:In wc.heap.size wc 13 d:=by
  have bd:Fz (λq=>V q\/(W.heap.size<=q/\q<x.heap.size)) x A:=w;obtain⟨⟨bf,bg⟩,_⟩:=(Q _ d v);obtain⟨a6,a7,aB⟩:=B.look p;have:=(aB wc z).2.2 _ d v;exact this.1.1
 exact NN aq (aC.fz (aW.trans (gN z))) aD aE am an ⟨⟨au,y2⟩,aJ⟩ λa5 ap=>⟨f,_,(J.later (z.trans (ap.mono z.size)) (V':=λ_=>False) λ_ u=>u.elim).up (by omega),λk p=>by rw[bD (av _)];exact E k p,⟨ax,λk=>by rw[bD (av _)]⟩,av _⟩
theorem Lu{n:Nat}{l:List (Bh (n+1))}{room:Int}{w0 W y:ag}{i U m j s0:Nat}{s:Sy}(a8:PK n l room w0 i U m s j s0 W)(bC:i<=100)(bE:j<=90){k:Nat}(x:Hn k)(aw:Gw k w0.heap.size w0 x)(a9:(aC (k+1) x.2).length<=2097152)(ba:am W y){L:Obj}(Q:y.heap[W.heap.size]?=some L):Qo w0.heap.size U m W.heap.size s0 x.1.1 x.1.2.1 x.1.2.2 (.agg #[ab x.1.1,ab x.1.2.1,ab x.1.2.2,ab x.2.1.1,ab x.2.1.2.1,af x.2.1.2.2,ae x.2.2.1.1 x.2.2.2.length x.2.2.1.2]) L (λs1 W=>PK n l room w0 (i+1) U m (s.do n l room x.1.1 x.1.2.1 x.1.2.2 (k+1) x.2).1 (j+1) s1 W) y:=by
 obtain⟨f,aH,al,o,⟨O,bH⟩,bg⟩:=a8;have bG:W.heap.size<y.heap.size:=(aI.1 Q).1;have R:=al.sys;have X:=al.later ba (V':=λc=>W.heap.size<=c/\c<y.heap.size) (λc e=>ak e);have bx:=al.evs;obtain⟨g,r⟩:∃g,g=s.do n l room x.1.1 x.1.2.1 x.1.2.2 (k+1) x.2:=⟨_,rfl⟩;rw[<-r];have bj:∃c,g.1.evs=s.evs++c:=by rw[r];exact Nx n l room s _ _ _ _ _
 obtain⟨bq,aq⟩:=bj;unfold Qo;refine(X.events (by omega)).mono ?_;rintro d ax ⟨aX,aZ,rfl,aA⟩;obtain⟨_,D,_⟩:=aA.out;refine⟨aX,_,aZ,rfl,by omega,dv D Q,?_⟩
 have Y:=X.later D (V':=λc=>W.heap.size<=c/\c<ax.heap.size) (λc e=>by
  by_cases A:c<y.heap.size
  ·exact aj ⟨e.1,A⟩
  ·exact ak ⟨by omega,e.2⟩)
 refine(Y.proc (by omega) x.1.2.2).mono ?_;rintro d aS ⟨br,y0,y1,y2,ya,yl,yc,G,I,H,q,rfl,aB⟩;obtain⟨E,bi,aQ⟩:=aB.out;have ao:=dv E (dv D Q);refine⟨br,y0,y1,y2,ya,yl,yc,G,I,H,q,rfl,by omega,ao,λK F=>?_⟩;have aR:=E.trans (F.mono E.size);have bI:=D.size;have bJ:=E.size;have bL:=F.size
 have aG:=Y.later aR (V':=λc=>W.heap.size<=c/\c<K.heap.size) (λc e=>by
  by_cases A:c<ax.heap.size
  ·exact aj ⟨e.1,A⟩
  ·exact ak ⟨by omega,e.2⟩)
 refine(aG.do (by omega) x aw a9).mono ?_;rintro d bt ⟨rfl,aD⟩;obtain⟨z,ay⟩:=aD.out;rw[<-r]at z;refine⟨_,rfl,?_⟩;refine(z.events (by omega)).mono ?_;rintro d V ⟨aa,a0,rfl,aE⟩;obtain⟨bs,S,ad,f1,f2⟩:=aE.out;have bB:ad.length=g.1.evs.length:=by rw[<-f1,dS]
 have bA:=z.evs;have bh:s0<=g.1.evs.length:=by rw[aq,bz];omega
 refine⟨aa,_,a0,rfl,⟨bh,by omega,bs⟩,?_⟩;obtain⟨h,C⟩:∃h:Nat->Prop,h=λc=>(W.heap.size<=c/\c<K.heap.size)\/(bt.heap.size<=c/\c<V.heap.size):=⟨_,rfl⟩;have aU:=z.later S (V':=h) (λc e=>by rw[C]at e;exact e);have aM:V.heap[W.heap.size]?=some L:=dv S ((ay.2 _ ⟨av _,by omega⟩ (by omega)).trans (dv F ao));have bk:Dz s x.1.2.2 q h G I H V:=by
  have a5:Dz s x.1.2.2 q (λc=>ax.heap.size<=c/\c<aS.heap.size) G I H aS:=aQ;have a6:Dz s x.1.2.2 q (λc=>W.heap.size<=c/\c<K.heap.size) G I H K:=(a5.fz (gN F)).mono λc e=>⟨by omega,by omega⟩;exact((a6.fz ay).fz (gN S)).mono λc e=>by rw[C];exact aj e
 have bd:Gu h aa ad V:=f2.mono λc e=>by rw[C];exact ak e
 have an:h W.heap.size:=by rw[C];exact aj ⟨av _,by omega⟩
 have a7:∀d∈g.1.evs,d.1=dV->I2 (d.2.1,d.2.2.1):=by
  by_cases ah:x.1.1=2/\g.2=0
  ·obtain⟨t,_,v,_⟩:=O.arr R.1 R.2 (a:=x.1.2.1) (b:=x.1.2.2) (k:=k+1) (x:=x.2) (prog:=l) (room:=room) ah.1 (by rw[<-r];exact ah.2);rw[<-r]at v;exact v.2
  ·have:=O.els (a:=x.1.2.1) (b:=x.1.2.2) (k:=k+1) (x:=x.2) (prog:=l) (room:=room) (kd:=x.1.1) (by
     by_cases e:x.1.1=2
     ·exact ak λbu=>ah ⟨e,by rw[r];exact bu⟩
     ·exact aj e)
   rw[<-r]at this;exact this.2
 clear C Q ao X Y aG z aA aB aD aE aQ ay D E F aR S f2;obtain⟨J,aP⟩:∃J,J=W.heap.size:=⟨_,rfl⟩;rw[<-aP]at aM an ⊢;clear aP;refine⟨λc W=>∃f,fX n l room w0 (i+1) U m (m+1) (s0+c+j) g.1 f aH h W/\(∀k,I2 k->(f k).map (cn 13)=tp k (g.1.evs.take (s0+c)))/\Gu h aa ad W/\Dz s x.1.2.2 q h G I H W/\W.heap[J]?=some L,?_,?_,?_⟩
 ·refine⟨f,aU,λk p=>?_,bd,bk,aM⟩;rw[o k p,iY,aq,iW bg]
 ·rintro c Z bF ⟨f,u,o,N,P,B⟩;obtain⟨d,aJ,bc,a2,a3,bv,bw,a4⟩:=N.at (j:=s0+c) (by omega);have ar:g.1.evs[s0+c]?=some (JC d):=by rw[<-f1,dn,bc];rfl
  have bb:(s0+c)*7=s0*7+c*7:=by omega
  have w:∀(t:Nat)(q:au),(DR d)[t]?=some q->ai Z aJ (s0*7+c*7+t) q:=λt q A=>by rw[<-bb];exact a4 t q A
  refine⟨aJ,d.1,d.2.1,d.2.2.1,d.2.2.2.1.1,d.2.2.2.1.2.1,d.2.2.2.1.2.2,d.2.2.2.2.1.1,d.2.2.2.2.2.length,d.2.2.2.2.1.2,⟨a2,w 0 _ rfl,w 1 _ rfl,w 2 _ rfl,w 3 _ rfl,w 4 _ rfl,w 5 _ rfl,w 6 _ rfl⟩,u.lt,λbl aW M=>?_,λaN=>?_⟩
  ·refine⟨f,(u.later M (V':=h) λ_ e=>aj e).up (by omega),λk p=>?_,N.fz (gN M),P.fz (gN M),dv M B⟩;rw[<-Nat.add_assoc,CV k _ _ _ ar,if_neg (λe=>bl e.1),dQ];exact o k p
  ·have aO:I2 (d.2.1,d.2.2.1):=a7 (JC d) (aL ar) aN;have be:(f (d.2.1,d.2.2.1)).length<=100000:=by
    have:(f (d.2.1,d.2.2.1)).length<=g.1.evs.length:=by
     rw[<-dS (cn 13),o _ aO];exact aF (tB _ _) (by rw[dK];omega)
    omega
   have bn:J<Z.heap.size:=(aI.1 B).1;refine(u.app aO (by omega) be a3).mono ?_;rintro aW ⟨aV,az⟩;refine⟨_,aV.up (by omega),λk p=>?_,N.fz az,P.fz az,(az.2 J an bn).trans B⟩;rw[<-Nat.add_assoc,CV k _ _ _ ar];by_cases ap:k=(d.2.1,d.2.2.1)
   ·subst ap;rw[cE,gV,o _ p,if_pos ⟨aN,rfl⟩];rfl
   ·rw[bK _ _ ap,if_neg (λe=>ap e.2.symm),dQ];exact o k p
 ·rintro Z ⟨f,u,o,N,P,B⟩;have bf:s0+(g.1.evs.length-s0)=g.1.evs.length:=by omega
  rw[bf]at u o;rw[bD (av _)]at o;unfold QF;refine(u.events (by omega)).mono ?_;rintro d bM ⟨aY,a1,rfl,aT⟩;obtain⟨_,T,_⟩:=aT.out;refine⟨aY,_,a1,rfl,dv T B,λbm=>?_,λp bp=>?_⟩
  ·have v:=O.els (a:=x.1.2.1) (b:=x.1.2.2) (k:=k+1) (x:=x.2) (prog:=l) (room:=room) (kd:=x.1.1) bm;rw[<-r]at v;exact⟨f,aH,(u.later T (V':=λ_=>False) λ_ e=>e.elim).up (by omega),λk p=>by rw[bD (av _)];exact o k p,⟨v,λk=>by rw[bD (av _)]⟩,av _⟩
  ·obtain⟨t,bo,v,aK⟩:=O.arr R.1 R.2 (a:=x.1.2.1) (b:=x.1.2.2) (k:=k+1) (x:=x.2) (prog:=l) (room:=room) p bp;rw[<-r]at v aK;exact Pu (u.later T (V':=h) λ_ e=>aj e) (by omega) rfl (by omega) ⟨aw.1.2.1,aw.1.2.2⟩ o bo rfl ⟨bq,aq⟩ v aK (P.fz (gN T)) bi an
end Go.Proofs.YtmmahddlcldmiaaGreat
