/- Proved here: plain facts and contracts. No condition but what each names. -/
import Derived.Test.YtmmahddlcldmiaaGreatJ09
import Derived.Test.YtmmahddlcldmiaaGreatJ10
namespace Go.Proofs.YtmmahddlcldmiaaGreat
open Go.RowKit Go.Maps Go.Shelf Go.Lib Go.Sort Tryz
open Go.RowKit Go.Maps
open Go.RowKit
set_option maxRecDepth 100000
set_option maxHeartbeats 1000000
def sB(x:Int×Int):List av:=[ab x.1,ab x.2]
def gB(a:List wJ):List (Int×Int):=a.map (·.1)
theorem vI:(a:List wJ)->(t:Nat)->t<a.length*2->(fq a)[t]?=some ((sB (gB a).toArray[t / 2]!)[t % 2]!)
 | [],t,h=>by simp at h
 | k::a,0,_=>rfl
 | k::a,1,_=>rfl
 | k::a,t+2,h=>by
  have ih:=vI a t (by simp at h;omega);have e:fq (k::a)=[ab k.1.1,ab k.1.2]++fq a:=rfl;rw[e,eq (by simp)];have b:t+2- [Value.int .i64 k.1.1,Value.int .i64 k.1.2].length=t:=by simp
  rw[b,ih,show (t+2) / 2=t / 2+1 by omega,show (t+2) % 2=t % 2 by omega];have c:(gB (k::a)).toArray[t / 2+1]! =(gB a).toArray[t / 2]! :=by
   simp[gB]
  rw[c]
variable{r:Bool}{l:List (Int×Int)}{d:List wJ}{N base g k len n q:Nat}{a b t1 t2:TypeId}{w w' w1 w2:ag}{s:ap}{c e f h i s0 s1 v y0 y1 y2:av}
theorem JP{c:Nat}(f:w.ownsRow base 44 2 (ae (some ⟨g,0,none⟩) d.length c) d.length (fq d)):HoldsK sB 2 w g 0 (gB d).toArray:=by
 intro e i;have l:(flatK sB 2 (gB d).toArray).size=d.length*2:=by simp[flatK,gB]
 rw[l]at i;refine⟨?_,?_⟩
 ·have h:=f.cells (g:=g) rfl e _ (vI d e i);rw[en]at h;rw[h];have j:=get_flatK sB 2 (gB d).toArray e (by simp[gB];omega);rw[<-j];rfl
 ·rcases f.2 with⟨b,_⟩|⟨n,cap,m,b,_,k,_⟩
  ·cases b
  ·injection b with a _ _;injection a with a;injection a with a _;subst a;simp[World.frozen?,k]
def yH(v:av)(l:List (Int×Int))(w:ag):Prop:=
 ∃d c,v=ae d l.length c/\(l=[]\/∃a,d=some ⟨a,0,none⟩/\a<w.heap.size/\∀b k,l[b]?=some k->w.cell? ⟨a,b*2,none⟩=some (ab k.1)/\w.cell? ⟨a,b*2+1,none⟩=some (ab k.2))
theorem yH.later(a:yH v l w)(f:ak w w'):yH v l w':=by
 obtain⟨i,c,d,a⟩:=a;refine⟨i,c,d,?_⟩;rcases a with a|⟨e,d,g,a⟩
 ·exact ai a
 ·exact aj ⟨e,d,aW g f.size,λb k h=>⟨(f.cell (p:=⟨e,b*2,none⟩) g).trans (a b k h).1,(f.cell (p:=⟨e,b*2+1,none⟩) g).trans (a b k h).2⟩⟩
def Bw(x y:Int×Int):Prop:=x.1<y.1\/x.1=y.1/\x.2<y.2
theorem vu(x y:Int×Int):ltOf jx x y=true ↔ Bw x y:=by
 unfold ltOf Bw;rw[decide_eq_true_iff,L5]
theorem mE(x y:Int×Int):ltOf jx x y=false ↔¬Bw x y:=by
 rw[<-vu];cases ltOf jx x y<;>simp
theorem P0:SWO (ltOf jx) where
 irrefl x:=by rw[mE];unfold Bw;omega
 trans x y z h1 h2:=by rw[vu]at*;unfold Bw at*;omega
 ntrans x y z h1 h2:=by rw[mE]at*;unfold Bw at*;omega
def Nt{N:Nat}(f:Int×Int->List (Tm N))(l:List (Int×Int)):Prop:=l.Pairwise Bw/\∀k,k∈l ↔ I2 k/\f k≠[]
theorem rS{N M:Nat}{f:Int×Int->List (Tm N)}{g:Int×Int->List (Tm M)}:(l r:List (Int×Int))->l.Pairwise Bw->r.Pairwise Bw->(∀k,k∈l ↔ k∈r)->l=r
 | [],[],_,_,_=>rfl
 | [],b::r,_,_,h=>by have:=(h b).2 (by simp);cases this
 | a::l,[],_,_,h=>by have:=(h a).1 (by simp);cases this
 | a::l,b::r,hl,hr,h=>by
  obtain⟨m,q⟩:=List.pairwise_cons.1 hl;obtain⟨n,s⟩:=List.pairwise_cons.1 hr;have p:a=b:=by
   have i:=(h a).1 (by simp);have j:=(h b).2 (by simp);simp only[cv]at i j;rcases i with c|i
   ·exact c
   ·rcases j with c|j
    ·exact c.symm
    ·have d:=m b j;have o:=n a i;unfold Bw at d o;omega
  subst p;rw[rS (f:=f) (g:=g) l r q s λk=>?_];constructor
  ·intro e;have:=(h k).1 (by simp[e]);simp only[cv]at this;rcases this with c|c
   ·subst c;have d:=m k e;unfold Bw at d;omega
   ·exact c
  ·intro e;have:=(h k).2 (by simp[e]);simp only[cv]at this;rcases this with c|c
   ·subst c;have d:=n k e;unfold Bw at d;omega
   ·exact c
theorem Ck{f:Int×Int->List (Tm N)}(p:d.Pairwise (λa b=>a≠b))(m:∀k,(∃x∈d,x.1=k) ↔ I2 k/\f k≠[]):Nt f ((gB d).mergeSort λx y=> !(ltOf jx) y x):=by
 have s:∀a b c:Int×Int,(!(ltOf jx) b a)=true->(!(ltOf jx) c b)=true->(!(ltOf jx) c a)=true:=λa b c i h=>by
  simp only[kL,mE]at*;unfold Bw at*;omega
 have r:∀a b:Int×Int,((!(ltOf jx) b a) || (!(ltOf jx) a b))=true:=λa b=>by
  cases e:ltOf jx b a
  ·simp
  ·have i:=(vu b a).1 e;have h:ltOf jx a b=false:=(mE a b).2 (by unfold Bw at*;omega);simp[h]
 have q:=List.pairwise_mergeSort s r (gB d);have j:=List.mergeSort_perm (gB d) (λx y=> !(ltOf jx) y x);have n:(gB d).Pairwise (λa b=>a≠b):=List.pairwise_map.2 (p.imp λe g=>e (Subtype.ext g));have o:=(j.symm.pairwise_iff (λ{a b}(e:a≠b)=>e.symm)).1 n;refine⟨?_,λk=>?_⟩
 ·have l:=q.and o;refine l.imp λ{a b} e=>?_;obtain⟨i,h⟩:=e;simp only[kL,mE]at i;have:¬(a.1=b.1/\a.2=b.2):=λg=>h (fC g.1 g.2);unfold Bw at*;omega
 ·rw[j.mem_iff,<-m k];simp[gB]
theorem Ek(w:ag)(g n:Nat)(d:Array (Int×Int))(os:Array Obj)(b:Nat)(e:b<w.heap.size)(c:b≠g):(sortWorldK sB 2 w g 0 n d os).heap[b]?=w.heap[b]? :=by
 unfold sortWorldK;have f:(putRowK sB 2 (Sort.ahead w n) g 0 d).heap.size=w.heap.size:=by simp[putRowK,putRow,mapBlock,Sort.ahead]
 rw[heap_grow_old _ _ (by omega)];have:g≠b:=λa=>c a.symm;simp[putRowK,putRow,mapBlock,Sort.ahead,bO,this]
theorem vU(w:ag)(g n base:Nat)(d:Array (Int×Int))(os:Array Obj)(c:base<=g)(e:base<=w.heap.size):Below base w (sortWorldK sB 2 w g 0 n d os):=by
 refine⟨rfl,rfl,rfl,?_,λb a=>Ek w g n d os b (by omega) (by omega)⟩;simp[sortWorldK,grow,putRowK,putRow,mapBlock,Sort.ahead]
theorem LN(w:ag):(isAgg 44).run Tryz.prog w=.ok true w:=by kernel_rfl
theorem KP(w:ag):(Go.sizeOf 44).run Tryz.prog w=.ok 2 w:=by kernel_rfl
theorem Ia(base:Nat)(a:List wJ)(v:av)(w:ag)(G:a.length<=1000000)(m:base<=w.heap.size)(t:w.ownsRow base 44 2 v a.length (fq a)):am 94 #[v,.func (.func 62) #[] #[]] w λe w'=>e=.returned (.tuple #[])/\yH v ((gB a).mergeSort λx y=> !(ltOf jx) y x) w'/\Below base w w':=by
 have s:((gB a).mergeSort λx y=> !(ltOf jx) y x).length=a.length:=by rw[List.length_mergeSort];simp[gB]
 rcases t.2 with⟨rfl,e⟩|⟨b,cap,E,rfl,p,D,H⟩
 ·have f:a=[]:=bJ e;subst f;refine(vV _ w).mono ?_;rintro e w' ⟨rfl,rfl⟩;exact⟨rfl,⟨none,0,by simp[gB],ai (by simp[gB])⟩,aq _ _⟩
 ·have C:=(aJ.1 D).1;have h:(gB a).toArray.size=a.length:=by simp[gB]
  have l:=JP t
  have o:=Tryz.slices_SortFunc_total 2 LN KP sB (λ_=>rfl) (λx v u=>by simp[sB]at u;rcases u with rfl|rfl<;>rfl) jx P0 62 #[] b 0 cap (gB a).toArray w (enters_of func62 (by kernel_rfl) rfl) (λJ os F _ x y=>EI x y _) l C (by rw[h];omega) (λx y d j=>by
   rw[mE]at d j;unfold Bw at d j
   exact fC (by omega) (by omega))
  rw[h]at o;refine o.mono ?_;rintro e w' ⟨rfl,n,os,rfl⟩;have B:((gB a).mergeSort λx y=> !(ltOf jx) y x).toArray.size=(gB a).toArray.size:=by
   rw[dT,s,h]
  have I:(putRowK sB 2 (Sort.ahead w n) b 0 ((gB a).toArray.toList.mergeSort λx y=> !(ltOf jx) y x).toArray).heap.size=w.heap.size:=by simp[putRowK,putRow,mapBlock,Sort.ahead]
  have q:=holdsK_grow (enc:=sB) (k:=2) (putRowK sB 2 (Sort.ahead w n) b 0 ((gB a).toArray.toList.mergeSort λx y=> !(ltOf jx) y x).toArray) os b 0 _ (by omega) (holdsK_putRowK (enc:=sB) (k:=2) (Sort.ahead w n) b 0 (gB a).toArray _ l B);refine⟨rfl,⟨some ⟨b,0,none⟩,cap,by rw[s],aj ⟨b,rfl,?_,λi k f=>?_⟩⟩,vU w b n base _ os p m⟩
  ·have:=(vU w b n base ((gB a).toArray.toList.mergeSort λx y=> !(ltOf jx) y x).toArray os p m).size;omega
  ·have r:=(aX.1 f).1;have g:=(q.cell (i:=i) (c:=0) (by simpa using r) (by omega)).1;have d:=(q.cell (i:=i) (c:=1) (by simpa using r) (by omega)).1;have z:((gB a).toArray.toList.mergeSort λx y=> !(ltOf jx) y x).toArray[i]! =k:=by
    have A:((gB a).mergeSort λx y=> !(ltOf jx) y x)[i]?=some k:=f;simp only[List.getElem!_toArray];rw[List.getElem!_eq_getElem?_getD,A];rfl
   rw[z]at g d;simp only[de,gH]at g d;exact⟨g,d⟩
theorem J7:(l r:List Lit)->l.Pairwise (λa b=>a≠b)->(∀x∈l,x∈r)->l.length<=r.length:=by
 letI:DecidableEq Lit:=λa b=>Classical.propDecidable (a=b);intro l
 induction l with
 | nil=>exact λ_ _ _=>aL _
 | cons a l ih=>
  intro r i d;obtain⟨g,h⟩:=List.pairwise_cons.1 i;have c:=d a (by simp);have j:=ih (r.erase a) h λx e=>(List.mem_erase_of_ne (λf=>g x e f.symm)).2 (d x (by simp[e]));rw[List.length_erase_of_mem c]at j;have:=List.length_pos_of_mem c;simp only[br];omega
theorem El(c b t:Nat)(D:DataW av)(w:ag)(E:c<w.heap.size)(q:w.cell? ⟨c,0,none⟩=some (.map (some b)))(h:w.ownsMap Tryz.prog 44 mK b t D)(d:Maps.size D<=1000000):am 60 #[.func (.func 95) #[] #[aH c],.func (.func 62) #[] #[]] w λe w'=>∃v a,e=.returned v/\Hid (nr D a/\yH v ((gB a).mergeSort λx y=> !(ltOf jx) y x) w'/\ak w w'/\a.length<=1000000):=by
 have o:∀a:List wJ,nr D a->a.length<=1000000:=λa m=>by
  obtain⟨es,rfl,N,M⟩:=h.entries dU;have C:= @J7 (a.map λk=>kl k.1) (es.map (·.1)) (List.pairwise_map.2 (m.1.imp λ{B b} F e=>F (Subtype.ext (l7 B.2 b.2 e)))) λx J=>by
   obtain⟨k,G,rfl⟩:=cm.1 J;have p:=(m.2 _).2 ⟨k,G,rfl⟩;rw[has_eq]at p;obtain⟨K,H,e⟩:=List.any_eq_true.1 p;exact cm.2 ⟨K,H,WideAt.sameKey_eq e⟩
  simp[Maps.size]at d;simp at C;omega
 have i:Hid (am 137 #[ae none 0 0,.func (.func 95) #[] #[aH c]] w λe w'=>∃(v:av)(a:List wJ),e=.returned v/\nr D a/\w'.ownsRow w.heap.size 44 2 v a.length (fq a)/\ak w w'):=
  kX.1 (FT Fence.wide 5 trivial rfl (by omega) 95 #[aH c] trivial (enters_of func95 (by kernel_rfl) rfl) (nr D) (Maps.size D) d w (DA Fence.wide 4 trivial rfl (by omega) c b t D w E q h))
 have z:Hid (am 93 #[.func (.func 95) #[] #[aH c]] w λe w'=>∃(v:av)(a:List wJ),e=.returned v/\nr D a/\w'.ownsRow w.heap.size 44 2 v a.length (fq a)/\ak w w'):=by
  unfold Hid;go_enter func93,ntmps93;go_wp2_with fail;refine i.mono ?_;rintro e w' ⟨v,a,rfl,I⟩;go_wp2_with fail
  go_ret
  exact⟨v,a,rfl,I⟩
 clear i q h d;go_enter func60,ntmps60;go_wp2_with fail;refine z.mono ?_;rintro e L ⟨v,a,rfl,f,s,g⟩;have j:=au f;have u:=au g;have l:=au (Ia w.heap.size a v L (o a f) g.size s);clear f s g;go_wp2_with fail;refine l.mono ?_;rintro e O ⟨rfl,r,n⟩;have A:=au (⟨j,r,u.trans n,o a j⟩:_/\_/\_/\_);clear r n l;go_wp2_with fail
 go_ret
 exact⟨v,a,rfl,A⟩
theorem GJ(l a:Nat)(W:ag)(g:W.cell? ⟨a,0,none⟩=some (.map none)):am 95 #[.func (.yield l) #[] #[],aH a] W λe b=>(∃v,e=.returned v)/\ak W b:=by
 have d:=λc=>run_range_nilMap (P:=Tryz.prog) c 51 44 29 underlying51;have f:=λty=>run_next_nilMap (P:=Tryz.prog) W ty 0 0 #[];go_enter func95,ntmps95;go_wp2_with fail;refine kZ 1 ?_;rw[iI];go_wp2_with fail;exact dn (v:=.tuple #[]) (by simp[results]) rfl ⟨⟨_,rfl⟩,(aq _ _).alloc (ao _) _⟩
theorem Ln{u:BL}{i:Option Nat}{f:Int×Int->List (Tm N)}{sl:Int×Int->av}(c:ii base u i n N f sl w)(P:n<=1000000):am 32 #[.pointer (some ⟨u.b,u.o,none⟩)] w λe w'=>∃v l,e=.returned v/\Hid (Nt f l/\yH v l w'/\ak w w'/\l.length<=1000000):=by
 have O:=c.cell.1;have C:Hid ((i=none/\f=λ_=> [])\/∃h d,i=some h/\w.ownsMap Tryz.prog 44 mK h n d/\∀a,has d a=true ↔∃k,I2 k/\a=kl k/\f k≠[]):=by
  rcases c.2.2 with⟨e,F,_⟩|⟨h,e,K⟩
  ·exact ai ⟨e,F⟩
  ·obtain⟨d,G,_,H⟩:=K.map;exact aj ⟨h,d,e,G,H⟩
 clear c;go_enter func32,ntmps32;go_wp2_with fail;refine(JV i w).mono ?_;rintro e j ⟨rfl,q⟩;have m:Hid (ak w j):=by
  rw[q];exact(aq _ _).alloc (ao _) _
 have p:Hid (j.heap[w.heap.size]?=some (.cells #[.map i] 51)):=by
  rw[q];exact aF _ _
 have B:Hid (w.grownBy j none):=by
  rw[q];exact cX w _ none
 clear q;go_wp2_with fail;rcases C with⟨rfl,rfl⟩|⟨h,d,rfl,s,y⟩
 ·refine(Cm 95 #[aH w.heap.size] (enters_of func95 (by kernel_rfl) rfl) _ j (λl E I=>?_)).mono ?_
  ·exact GJ l w.heap.size E (ah ((I.block w.heap.size (aJ.1 p).1).trans p) 0)
  ·rintro e M ⟨rfl,J⟩;go_wp2_with fail
   go_ret
   exact⟨_,[],rfl,⟨List.Pairwise.nil,λk=>⟨λc=>(by cases c),λc=>absurd rfl c.2⟩⟩,⟨none,0,rfl,ai rfl⟩,m.out.trans (J.mono m.out.size),aL _⟩
 ·have x:=au y;have L:=s.size_le;have D:=au (El w.heap.size h n d j (aJ.1 p).1 (ah p 0) (s.kept B (by simp)) (by omega));clear s y L;refine D.mono ?_;rintro e M ⟨v,R,rfl,g⟩;go_wp2_with fail
  go_ret
  refine⟨v,_,rfl,Ck g.1.1 (λk=>?_),g.2.1,m.trans (g.2.2.1.mono m.size),by simpa [gB]using g.out.2.2.2⟩;constructor
  ·rintro ⟨a,t,rfl⟩;obtain⟨Q,A,e,r⟩:=(x _).1 ((g.1.2 _).2 ⟨a,t,rfl⟩);rw[l7 a.2 A e];exact⟨A,r⟩
  ·rintro ⟨z,r⟩;obtain⟨a,t,e⟩:=(g.1.2 _).1 ((x _).2 ⟨k,z,rfl,r⟩);exact⟨a,t,(l7 z a.2 e).symm⟩
theorem ML(a b:Int)(w:ag):(Op.equalIn 10000 44 (.agg #[ab a,ab b]) (.agg #[ab a,ab b])).run Tryz.prog w=.ok true w:=by
 have d:=underlying3;have c:∀w,(isAgg 3).run Tryz.prog w=.ok false w:=λw=>by kernel_rfl
 have e:∀w,(Go.sizeOf 3).run Tryz.prog w=.ok 1 w:=λw=>by kernel_rfl
 rw[show (10000:Nat)=9999+1 from rfl,Op.equalIn];simp only[kV,cC underlying44,kU];simp only[Std.Legacy.Range.forIn_eq_forIn_range',Std.Legacy.Range.size,Nat.sub_zero,eO,Nat.div_one,List.range'_succ,List.range'_zero,List.forIn_cons,List.forIn_nil]
 go_simp
theorem De(g n:aw)(c d:Nat)(len:Nat)(w:ag)(x:len<=1000000)(r:Hid (∀i,i<len->∃b f h j,g=some ⟨b,0,none⟩/\n=some ⟨f,0,none⟩/\(w.cell? ⟨b,i*2,none⟩=some (ab h)/\w.cell? ⟨b,i*2+1,none⟩=some (ab j))/\(w.cell? ⟨f,i*2,none⟩=some (ab h)/\w.cell? ⟨f,i*2+1,none⟩=some (ab j)))):am 13 #[ae g len c,ae n len d] w λe w'=>e=.returned (.bool true)/\ak w w':=by
 go_enter func13,ntmps13;go_wp2_with fail;go_loopw [13] (λi wr=>∃a:Nat,a<=len/\i=ab a/\Hid (ak w wr)) (λi _=>len-(intOf i).toNat)
 case atStart=>exact⟨0,aL _,rfl,aq _ _⟩
 case round=>
  obtain⟨a,v,rfl,HB⟩:=hrel;by_cases t:a<len
  ·obtain⟨b,f,h,j,rfl,rfl,⟨m,q⟩,y0,y1⟩:=r a t;have o:=fD w ⟨b,a*2,none⟩ m;have p:=fD w ⟨f,a*2,none⟩ y0;have k:=ax HB;replace m:=(k _ _ o).trans m;replace q:=(k _ _ o).trans q;replace y0:=(k _ _ p).trans y0;replace y1:=(k _ _ p).trans y1;clear k;have y:(0:Int)<=(a:Int):=by omega
   have z:(a:Int)<(len:Int):=by omega
   have s:Hid (ak w wr.drew):=HB.drew;have u:=ML h j;go_wp2_with fail;go_region_held3 (λl=>(l.cell? ⟨b,a*2,none⟩=some (ab h)/\l.cell? ⟨b,a*2+1,none⟩=some (ab j))/\(l.cell? ⟨f,a*2,none⟩=some (ab h)/\l.cell? ⟨f,a*2+1,none⟩=some (ab j))) (go_keep) (fail);go_wp2_with fail;go_roundw
   case rel=>exact⟨a+1,by omega,by go_num,s⟩
   case measure=>simp[intOf];omega
  ·obtain rfl:a=len:=by omega
   go_wp2_with fail
   go_ret
   exact⟨rfl,HB⟩
theorem Gm{u:av}(d:yH v l w)(f:yH u l w)(n:l.length<=1000000):am 13 #[v,u] w λe w'=>e=.returned (.bool true)/\ak w w':=by
 obtain⟨i,c,rfl,d⟩:=d;obtain⟨b,j,rfl,f⟩:=f;refine De i b c j l.length w n λg a=>?_;rcases d with d|⟨k,rfl,_,d⟩
 ·rw[d]at a;simp at a
 ·rcases f with f|⟨m,rfl,_,f⟩
  ·rw[f]at a;simp at a
  ·have h:l[g]?=some (l[g]'a):=aM a;exact⟨k,m,(l[g]'a).1,(l[g]'a).2,rfl,rfl,d g _ h,f g _ h⟩
def p8:ap:=⟨#[115,101,108,102]⟩
def wC:ap:=⟨#[97,100,100]⟩
def CG:ap:=⟨#[112,117,116]⟩
def pO(N:Nat)(x:Tm N):Int:=(gu N x).1.2.1
def ud(n:Nat)(p:List (Tm n))(s:ap)(k:Nat):Bool:=
 decide (p.length=1+k) && match p[0]? with
  | some a=>b8 ⟨n,a⟩==2 && (gu n a).1.2.2.toList==s.toList
  | none=>false
def cQ{c β:Type}(f:c->Option β):List c->Option (List β)
 | []=>some []
 | a::p=>(f a).bind λb=>(cQ f p).map λl=>b::l
def bT(k u:Int)(N:Nat):Tm (N+1):=((k,u,.empty),(none,0),[])
def zZ(N:Nat)(a c:Tm N):Bool:=b8 ⟨N,a⟩==1 && b8 ⟨N,c⟩==1 && qP (pO N a+pO N c) (-1099511627776) 1099511627776
def tV(N:Nat)(a c:Tm N):Option (Tm (N+1)):=if zZ N a c then some (bT 1 (pO N a+pO N c) N)else none
def dl(N:Nat)(l:List (Tm N)):Tm (N+1):=((4,0,.empty),(none,0),l)
def vl(m:Nat)(b:List (Tm m))(self:Int):(n:Nat)->Tm n->Option (Tm (m+n))
 | 0,_=>none
 | n+1,x=>
  if x.1.1=5 then (b[x.1.2.1.toNat]?).bind λy=>if b8 ⟨m,y⟩=6 then none else some (aY (m+n+1) m y)
  else if x.1.1=6 then none
  else if x.1.1=4 then
   if ud n x.2.2 p8 0 then some (bT 3 self (m+n))
   else if ud n x.2.2 wC 2 then
    (x.2.2[1]?).bind λa=>(x.2.2[2]?).bind λc=>(vl m b self n a).bind λa=>(vl m b self n c).bind λc=>tV (m+n) a c
   else if ud n x.2.2 CG 1 then
    (x.2.2[1]?).bind λa=>if aS n a then some (aY (m+n+1) n a)else none
   else (cQ (λy=>vl m b self n y) x.2.2).map (dl (m+n))
  else some (aY (m+n+1) (n+1) x)
theorem qY{e β:Type}(f:e->Option β):(p:List e)->(l:List β)->cQ f p=some l->l.length=p.length/\∀(i:Nat)(a:e)(y:β),p[i]?=some a->l[i]?=some y->f a=some y
 | [],l,b=>by simp[cQ]at b;subst b;exact⟨rfl,λi a y c=>by simp at c⟩
 | a::p,l,b=>by
  simp only[cQ]at b;obtain⟨y,m,b⟩:=bC.1 b;obtain⟨r,k,rfl⟩:=cw.1 b;obtain⟨h,j⟩:=qY f p r k;refine⟨by simp[h],λi g n c d=>?_⟩;cases i with
  | zero=>
   simp at c d;subst c d;exact m
  | succ i=>exact j i g n (by simpa using c) (by simpa using d)
theorem mm{c β:Type}(f:c->Option β):(p:List c)->(i:Nat)->(a:c)->p[i]?=some a->f a=none->cQ f p=none
 | [],i,a,h,_=>by simp at h
 | b::p,0,a,h,k=>by
  simp at h;subst h;simp[cQ,k]
 | b::p,i+1,a,h,k=>by
  simp only[cQ];rw[mm f p i a (by simpa using h) k];simp
theorem xg{b β:Type}(f:b->Option β)(g:b->β):(p:List b)->(∀a∈p,f a=some (g a))->cQ f p=some (p.map g)
 | [],_=>rfl
 | a::p,h=>by simp[cQ,h a (by simp),xg f g p λx c=>h x (bR _ c)]
theorem zk{b β c:Type}(f:b->List c)(g:β->List c)(K:Nat):(p:List b)->(l:List β)->l.length=p.length->(∀(i:Nat)(a:b)(y:β),p[i]?=some a->l[i]?=some y->(g y).length<=K*(f a).length)->(l.flatMap g).length<=K*(p.flatMap f).length
 | [],[],_,_=>by simp
 | [],_::_,h,_=>by simp at h
 | _::_,[],h,_=>by simp at h
 | a::p,y::l,h,k=>by
  have j:=k 0 a y rfl rfl;have m:=zk f g K p l (by simpa using h) λi a y d e=>k (i+1) a y (by simpa using d) (by simpa using e);simp only[bK,bw];rw[Nat.mul_add];omega
theorem oY:(N n:Nat)->n<=N->(x:Tm n)->(aC N (aY N n x)).length<=(aC n x).length
 | 0,0,_,_=>ao _
 | _+1,0,_,_=>by simp[aY,aC]
 | 0,n+1,h,_=>by omega
 | N+1,n+1,h,x=>by
  have:=zk (λy=>aC n y) (λy=>aC N y) 1 x.2.2 (x.2.2.map λy=>aY N n y) (by simp) λi a y c b=>by
   simp[c]at b;subst b;rw[Nat.one_mul];exact oY N n (by omega) a
  simp only[aC,aY,br];omega
theorem vn{a K:Nat}(b:1<=K):a<=K*a:=Nat.le_mul_of_pos_left a b
theorem Bz{d e:Type}(f:d->List e)(p:List d)(a:d)(c:a∈p):(f a).length<=(p.flatMap f).length:=by
 induction p with
 | nil=>cases c
 | cons b p ih=>
  simp only[bK,bw];rcases cv.1 c with rfl|c
  ·omega
  ·have:=ih c;omega
theorem CE(m:Nat)(b:List (Tm m))(self:Int)(K:Nat)(f:1<=K)(q:∀y∈b,(aC m y).length<=K):(n:Nat)->(x:Tm n)->(o:Tm (m+n))->vl m b self n x=some o->(aC (m+n) o).length<=K*(aC n x).length
 | 0,_,_,d=>by simp[vl]at d
 | n+1,x,o,d=>by
  have one:∀k u,(aC (m+n+1) (bT k u (m+n))).length<=K*(aC (n+1) x).length:=λk u=>by
   have:1*1<=K*(aC (n+1) x).length:=Nat.mul_le_mul f (by simp[aC]);simpa [aC,bT]using this
  have up:∀(y:Tm n),y∈x.2.2->K*(aC n y).length<=K*(aC (n+1) x).length:=λy j=>by
   have:=Bz (λy=>aC n y) x.2.2 y j;exact Nat.mul_le_mul_left K (by simp only[aC,br]at this ⊢;omega)
  simp only[vl]at d;split at d
  ·obtain⟨y,j,d⟩:=bC.1 d;split at d
   ·cases d
   ·obtain rfl:=aA d;have e:=oY (m+n+1) m (by omega) y;have g:=q y (aN j);have h:K*1<=K*(aC (n+1) x).length:=Nat.mul_le_mul_left K (by simp[aC]);show (aC (m+n+1) _).length<=_;omega
  ·split at d
   ·cases d
   ·split at d
    ·split at d
     ·obtain rfl:=aA d;exact one _ _
     ·split at d
      ·obtain⟨a,p,d⟩:=bC.1 d;obtain⟨c,A,d⟩:=bC.1 d;obtain⟨v,z,d⟩:=bC.1 d;obtain⟨w,B,d⟩:=bC.1 d;unfold tV at d;split at d
       ·obtain rfl:=aA d;exact one _ _
       ·cases d
      ·split at d
       ·obtain⟨a,p,d⟩:=bC.1 d;split at d
        ·obtain rfl:=aA d;have e:=oY (m+n+1) n (by omega) a;have g:=up a (aN p);have h:=vn (a:=(aC n a).length) f;show (aC (m+n+1) _).length<=_;omega
        ·cases d
       ·obtain⟨l,t,rfl⟩:=cw.1 d;obtain⟨e,g⟩:=qY _ _ _ t;have h:=zk (λy=>aC n y) (λy=>aC (m+n) y) K x.2.2 l e λi a y r s=>CE m b self K f q n a y (g i a y r s);show (aC (m+n+1) (dl (m+n) l)).length<=_;simp only[aC,dl,br];rw[Nat.mul_add];omega
    ·obtain rfl:=aA d;have e:=oY (m+n+1) (n+1) (by omega) x;have h:=vn (a:=(aC (n+1) x).length) f;show (aC (m+n+1) _).length<=_;omega
theorem kI:(n:Nat)->(x:Tm n)->(m:Nat)->(y:Tm m)->aB n x m y=true->(aC n x).length=(aC m y).length
 | 0,_,_,_,h=>by simp[aB]at h
 | _+1,_,0,_,h=>by simp[aB]at h
 | n+1,x,m+1,y,h=>by
  obtain⟨f,e⟩:=bL h;have key:∀(p:List (Tm n))(q:List (Tm m)),aG (λa b=>aB n a m b) p q=true->(p.flatMap λy=>aC n y).length=(q.flatMap λy=>aC m y).length:=by
   intro p
   induction p with
   | nil=>intro q d;cases q with
    | nil=>rfl
    | cons _ _=>simp[aG]at d
   | cons a p ih=>intro q d;cases q with
    | nil=>simp[aG]at d
    | cons c q=>
     simp only[aG,aK]at d;simp only[bK,bw];rw[kI n a m c d.1,ih q d.2]
  simp only[aC,br];rw[key _ _ e]
theorem bG{x:Tm n}:bE n x=0 ↔ ch n x=true/\fI n x<=12/\sz n x<=200:=by
 rw[<-gz];unfold wX;constructor
 ·intro a;split at a
  ·rename_i c;split at a
   ·cases a
   ·rename_i f;exact⟨c,by omega,by omega⟩
  ·cases a
 ·rintro ⟨b,d,e⟩;rw[if_pos b,if_neg (by omega)]
theorem Fs:(n:Nat)->(x:Tm n)->aI ⟨n,x⟩->((aC n x).length:Int)<=sz n x+1
 | 0,_,h=>(dq h).elim
 | n+1,x,h=>by
  have c:=eR (bI n x) (h (bI n x) (by simp[aC,bI]));by_cases a:x.1.1=4
  ·have key:∀l:List (Tm n),(∀y∈l,aI ⟨n,y⟩)->((l.flatMap λy=>aC n y).length:Int)<=(l.map λy=>1+sz n y).sum:=by
     intro l
     induction l with
     | nil=>intro _;simp
     | cons y l ih=>
      intro b;have g:=Fs n y (b y (by simp));have i:=ih λf e=>b f (bR _ e);simp only[bK,bw,aU,bN];omega
   have:=key x.2.2 λy d=>bf n x y h d;simp only[aC,br,sz,if_pos a];omega
  ·have:x.2.2=[]:=bJ (c.2.2.2.2 a);simp[aC,this,sz,a]
theorem oe{x:Tm n}(a:bE n x=0):(aC n x).length<=201:=by
 obtain⟨b,_,c⟩:=bG.1 a;have:=Fs n x (aT.2 b);omega
theorem im{m:Nat}{b:List (Tm m)}(a:gn m b=true):b.length=4/\∀y∈b,bE m y=0/\aI ⟨m,y⟩/\(b8 ⟨m,y⟩=6\/aS m y=true):=by
 unfold gn at a;simp only[aK,co,cu]at a;refine⟨a.1,λy c=>?_⟩;have:=a.2 y c;unfold BM at this;simp only[aK,iB,cF]at this;refine⟨this.1,aT.2 (bG.1 this.1).1,?_⟩;rw[fF];exact this.2
theorem qu(e:n<=N)(x:Tm n)(c:aI ⟨n,x⟩):aI ⟨N,aY N n x⟩:=by
 cases n with
 | zero=>exact(dq c).elim
 | succ n=>
  obtain⟨a,rfl⟩:∃a,N=a+1:=⟨N-1,by omega⟩;intro d b;simp only at b;rw[nE a n (by omega) x]at b;exact c d b
theorem vN{x:Tm (N+1)}(c:cJ (bI N x)=true)(k:∀y∈x.2.2,aI ⟨N,y⟩):aI ⟨N+1,x⟩:=by
 intro b a;simp only[aC,cv,jN]at a;rcases a with rfl|⟨y,d,a⟩
 ·exact c
 ·exact k y d b a
theorem wu(m:Nat)(b:List (Tm m))(self:Int)(k:1<=self/\self<=99)(i:∀y∈b,aI ⟨m,y⟩):(n:Nat)->(x:Tm n)->aI ⟨n,x⟩->(g:Tm (m+n))->vl m b self n x=some g->aI ⟨m+n,g⟩
 | 0,_,_,_,d=>by simp[vl]at d
 | n+1,x,hr,g,d=>by
  have r:=hr (bI n x) (by simp[aC,bI]);have B:x.2.2.length<=8:=mB (bI n x) r;simp only[vl]at d;split at d
  ·obtain⟨y,e,d⟩:=bC.1 d;split at d
   ·cases d
   ·obtain rfl:=aA d;exact qu (N:=m+n+1) (by omega) y (i y (aN e))
  ·split at d
   ·cases d
   ·split at d
    ·split at d
     ·obtain rfl:=aA d;exact vN (N:=m+n) (by simp[cJ,bT,bI,qP,k]) (by intro y e;cases e)
     ·split at d
      ·obtain⟨a,h,d⟩:=bC.1 d;obtain⟨c,z,d⟩:=bC.1 d;obtain⟨u,w,d⟩:=bC.1 d;obtain⟨v,A,d⟩:=bC.1 d;unfold tV at d;split at d
       ·rename_i o;obtain rfl:=aA d;simp only[zZ,aK]at o;exact vN (N:=m+n) (by simp[cJ,bT,bI,o.2]) (by intro y e;cases e)
       ·cases d
      ·split at d
       ·obtain⟨a,h,d⟩:=bC.1 d;split at d
        ·obtain rfl:=aA d;exact qu (N:=m+n+1) (by omega) a (bf n x a hr (aN h))
        ·cases d
       ·obtain⟨l,t,rfl⟩:=cw.1 d;obtain⟨p,q⟩:=qY _ _ _ t;refine vN (N:=m+n) ?_ λy e=>?_
        ·have:(l.length:Int)<=8:=by omega
         simp[cJ,dl,bI,this]
        ·obtain⟨f,j⟩:=dd e;have s:f<x.2.2.length:=by rw[<-p];exact(aX.1 j).1
         exact wu m b self k i n x.2.2[f] (bf n x _ hr (jM _)) y (q f _ y (aM s) j)
    ·obtain rfl:=aA d;exact qu (N:=m+n+1) (by omega) x hr
def FB(a:Int)(bd:Bool)(self:Int):Int:=if a=0 then if bd then if 1<=self/\self<=99 then 0 else 1 else 5 else a
def nZ{N:Nat}(E:Int)(o:Option (Tm N)):Option (Tm N):=if E=0 then o.bind λa=>if bE N a=0 then some a else none else none
def FA{N:Nat}(E:Int)(o:Option (Tm N)):Int:=if E=0 then if o.isSome then 0 else 7 else E
theorem Fl{p:List (Tm n)}(a:p.length≠1+k):ud n p s k=false:=by simp[ud,a]
theorem Ol{p:List (Tm (n+1))}{y:Tm (n+1)}(a:p.length=1+k)(b:p[0]?=some y):ud (n+1) p s k=(y.1.1==2 && y.1.2.2.toList==s.toList):=by
 simp[ud,a,b,b8,gu,bI]
theorem GI(a:aw)(len pc:Nat)(s:ap)(k:Nat)(w:ag)(f:k<=8)(c:len≠1+k):am 206 #[ae a len pc,af s,ab k] w λe w'=>e=.returned (.bool false)/\w'=w:=by
 have d:((len:Int)==1+(k:Int))=false:=by simp;omega
 have b:IntKind.i64.wrap (1+(k:Int))=1+(k:Int):=by rw[IntKind.wrap];simp[IntKind.bits,IntKind.signed];omega
 go_enter func206,ntmps206;go_wp2_with fail
 go_ret
 exact⟨rfl,rfl⟩
theorem GH(a po len pc:Nat)(s:ap)(k:Nat)(b:Int)(c:ap)(w:ag)(l:len<=8)(j:k<=8)(g:len=1+k)(c0:w.cell? ⟨a,po,none⟩=some (ab b))(d:w.cell? ⟨a,po+2,none⟩=some (af c)):am 206 #[ae (some ⟨a,po,none⟩) len pc,af s,ab k] w λe w'=>e=.returned (.bool (b==2 && c.toList==s.toList))/\w'=w:=by
 have h:((len:Int)==1+(k:Int))=true:=by simp;omega
 have f:IntKind.i64.wrap (1+(k:Int))=1+(k:Int):=by rw[IntKind.wrap];simp[IntKind.bits,IntKind.signed];omega
 have i:(0:Int)<(len:Int):=by omega
 cases hx:b==2
 ·go_enter func206,ntmps206;go_wp2_with fail
  go_ret
  exact⟨rfl,rfl⟩
 ·go_enter func206,ntmps206;go_wp2_with fail
  go_ret
  exact⟨rfl,rfl⟩
theorem Dy(n:Nat)(p:List (Tm n))(a:aw)(pc B:Nat)(s:ap)(k:Nat)(w:ag)(d:fM B w n p a)(m:p.length<=8)(h:k<=8):am 206 #[ae a p.length pc,af s,ab k] w λe w'=>e=.returned (.bool (ud n p s k))/\w'=w:=by
 by_cases c:p.length=1+k
 ·rcases d with d|⟨b,o,rfl,u,d⟩
  ·rw[d]at c;simp at c;omega
  ·obtain⟨f,i⟩:∃f,p[0]?=some f:=⟨p[0]'(by omega),aM _⟩;obtain⟨g,t⟩:=d 0 f i;cases n with
   | zero=>exact g.elim
   | succ n=>
    rw[Ol c i];obtain⟨j,q,l,r⟩:=g;exact GH b o p.length pc s k f.1.1 f.1.2.2 w m h c (by simpa using j) (by simpa using l)
 ·rw[Fl c];exact GI a p.length pc s k w h c
def kh(N:Nat)(o:Option (Tm N))(w:ag)(e:Ending)(w':ag):Prop:=
 ∃(a:Tm N)(b:Bool),e=.returned (.tuple #[dw N a,.bool b])/\Hid (ak w w'/\In w'.heap.size w' N a/\cr (λd=>w.heap.size<=d) N a/\b=o.isSome/\∀c,o=some c->aB N a N c=true)
def NQ(m:Nat)(b:List (Tm m))(self:Int)(n:Nat):Prop:=∀(x:Tm n)(a:aw)(c B:Nat)(w:ag),In B w n x->aI ⟨n,x⟩->fM B w m b a->B<=w.heap.size->
 am 189 #[.agg #[ae a 4 c,ab self],dw n x] w (kh (m+n) (vl m b self n x) w)
def NS{N:Nat}(o:Option (Tm N))(w:ag)(e:Ending)(w':ag):Prop:=
 ∃(c:Int)(b:Bool),e=.returned (.tuple #[ab c,.bool b])/\Hid (ak w w'/\b=(o.isSome && o.all λa=>b8 ⟨N,a⟩==1)/\∀a,o=some a->c=pO N a)
theorem DO{o:Option (Tm (N+1))}{y:Tm (N+1)}(f:ak w w2)(d:ak w1 w2/\In w2.heap.size w2 (N+1) y/\cr (λq=>w1.heap.size<=q) (N+1) y/\r=o.isSome/\∀a,o=some a->aB (N+1) y (N+1) a=true)(c:Bool)(g:c=(r && y.1.1==1)):ak w w2/\c=(o.isSome && o.all λa=>b8 ⟨N+1,a⟩==1)/\∀a,o=some a->y.1.2.1=pO (N+1) a:=by
 obtain⟨_,_,_,e,b⟩:=d;refine⟨f,?_,λa h=>?_⟩
 ·rw[g,e];cases ho:o with
  | none=>rfl
  | some a=>
   have:=(bL (b a ho)).1;simp[b8,this]
 ·have:=(bL (b a h)).1;simp[pO,gu,bI,this]
theorem IE{a b:Obj}(d:Below ((w.alloc a).alloc b).heap.size ((w.alloc a).alloc b) w'):ak w w':=by
 have c:ak w ((w.alloc a).alloc b):=((aq _ _).alloc (ao _) _).alloc (by simp) _;exact c.trans (d.mono c.size)
theorem tr(N:Nat)(o:Option (Tm (N+1)))(a:aw)(c:Nat)(self:Int)(k l:Int)(m:ap)(xa:aw)(n xc:Nat)(w:ag)(i:Hid (∀w1,ak w w1->am 189 #[.agg #[ae a 4 c,ab self],.agg #[ab k,ab l,af m,ae xa n xc]] w1 (kh (N+1) o w1))):am 210 #[.agg #[ae a 4 c,ab self],.agg #[ab k,ab l,af m,ae xa n xc]] w (NS o w):=by
 go_enter func210,ntmps210;go_wp2_with fail;refine(i _ (((aq _ _).alloc (ao _) _).alloc (by simp) _)).mono ?_;rintro s f ⟨d,q,rfl,e⟩;have HB:Hid (ak w f):=IE e.1;have j:dw (N+1) d=.agg #[ab d.1.1,ab d.1.2.1,af d.1.2.2,ae d.2.1.1 d.2.2.length d.2.1.2]:=rfl;rw[j];clear j i;have h:=λr p=>au (DO HB e r p);clear HB e;have g:Hid (∀o:Obj,ak w f->ak w (f.alloc o).drew):=λo b=>(b.alloc b.size o).drew;cases q
 ·go_wp2_with fail;go_region;go_wp2_with fail
  go_ret2
  have b:=(h false rfl).out;exact⟨_,_,rfl,g _ b.1,b.2⟩
 ·go_wp2_with fail;go_region;go_wp2_with fail
  go_ret2
  have b:=(h _ rfl).out;exact⟨_,_,rfl,g _ b.1,b.2⟩
def O1{N:Nat}(o:Option (Tm N)):Prop:=∀a,o=some a->b8 ⟨N,a⟩=1-> -1099511627776<=pO N a/\pO N a<=1099511627776
def wW{N:Nat}(b d:Option (Tm N)):Option (Tm (N+1)):=b.bind λa=>d.bind λc=>tV N a c
theorem MZ{a d:Option (Tm N)}(b:(a.isSome && a.all λe=>b8 ⟨N,e⟩==1)=false):wW a d=none:=by
 cases a with
 | none=>rfl
 | some f=>
  simp at b;cases d with
  | none=>rfl
  | some c=>simp[wW,tV,zZ,b]
theorem KV{d a:Option (Tm N)}(b:(a.isSome && a.all λe=>b8 ⟨N,e⟩==1)=false):wW d a=none:=by
 cases d with
 | none=>rfl
 | some f=>
  cases a with
  | none=>rfl
  | some c=>
   simp at b;simp[wW,tV,zZ,b]
theorem KW{b d:Option (Tm N)}{u v:Int}(h:true=(b.isSome && b.all λa=>b8 ⟨N,a⟩==1))(i:true=(d.isSome && d.all λa=>b8 ⟨N,a⟩==1))(j:∀a,b=some a->u=pO N a)(k:∀a,d=some a->v=pO N a)(l:O1 b)(m:O1 d):wW b d=(if -1099511627776<=u+v/\u+v<=1099511627776 then some (bT 1 (u+v) N)else none)/\(-1099511627776<=u/\u<=1099511627776)/\(-1099511627776<=v/\v<=1099511627776):=by
 cases b with
 | none=>simp at h
 | some e=>
  cases d with
  | none=>simp at i
  | some c=>
   have f:b8 ⟨N,e⟩=1:=by simpa using h.symm
   have g:b8 ⟨N,c⟩=1:=by simpa using i.symm
   rw[j e rfl,k c rfl];refine⟨?_,l e rfl f,m c rfl g⟩;simp[wW,tV,zZ,f,g,qP]
theorem jz:dC 0:=by simp[dC]
theorem lA(N:Nat)(k u:Int)(a:dC k)(b:dC u)(B:Nat)(w:ag)(P:aR):In B w (N+1) (bT k u N)/\cr P (N+1) (bT k u N):=
 ⟨⟨⟨a,b,aL _,aL _,aL _⟩,ai rfl⟩,ai rfl⟩
theorem xy(N:Nat)(k u:Int):aB (N+1) (bT k u N) (N+1) (bT k u N)=true:=dh rfl rfl
theorem kK(a:ak w w'):kh (N+1) none w (.returned (.tuple #[.agg #[ab 0,ab 0,af .empty,ae none 0 0],.bool false])) w':=
 ⟨bT 0 0 N,false,rfl,a,(lA N 0 0 jz jz _ _ (λ_=>True)).1,(lA N 0 0 jz jz 0 w _).2,rfl,λc b=>by cases b⟩
theorem yy(c:ak w w')(k u:Int)(a:dC k)(b:dC u):kh (N+1) (some (bT k u N)) w (.returned (.tuple #[.agg #[ab k,ab u,af .empty,ae none 0 0],.bool true])) w':=
 ⟨bT k u N,true,rfl,c,(lA N k u a b _ _ (λ_=>True)).1,(lA N k u a b 0 w _).2,rfl,λe d=>by obtain rfl:=aA d;exact xy N k u⟩
theorem nB(w:ag)(a b c d:Obj):ak w ((((w.alloc a).alloc b).alloc c).alloc d):=((((aq _ _).alloc (ao _) _).alloc (by simp) _).alloc (by simp;omega) _).alloc (by simp;omega) _
def nV(q:Nat)(w:ag):Prop:=(w.cell? ⟨q,0,none⟩=some (ab 0)/\w.cell? ⟨q,1,none⟩=some (ab 0)/\w.cell? ⟨q,2,none⟩=some (af .empty)/\w.cell? ⟨q,3,none⟩=some (ae none 0 0))/\(w.frozen? ⟨q,0,none⟩=false/\w.frozen? ⟨q,1,none⟩=false/\w.frozen? ⟨q,2,none⟩=false/\w.frozen? ⟨q,3,none⟩=false)/\q<w.heap.size
theorem nV.below(i:nV q w)(c:ak w w'):nV q w':=by
 obtain⟨⟨j,k,l,m⟩,⟨e,f,g,h⟩,d⟩:=i;have a:=λo=>c.cell (p:=⟨q,o,none⟩) d;have b:=λo=>c.frozen (p:=⟨q,o,none⟩) d;exact⟨⟨(a 0).trans j,(a 1).trans k,(a 2).trans l,(a 3).trans m⟩,⟨(b 0).trans e,(b 1).trans f,(b 2).trans g,(b 3).trans h⟩,aW d c.size⟩
theorem Dn(d:Below ((((w.alloc (.cells #[s0,s1] t1)).alloc (.cells #[c,e,f,h] t2)).alloc (.cells #[y0,y1,y2,i] a)).alloc (.cells #[ab 0,ab 0,af .empty,ae none 0 0] b)).heap.size ((((w.alloc (.cells #[s0,s1] t1)).alloc (.cells #[c,e,f,h] t2)).alloc (.cells #[y0,y1,y2,i] a)).alloc (.cells #[ab 0,ab 0,af .empty,ae none 0 0] b)) w'):(w'.cell? ⟨w.heap.size,0,none⟩=some s0/\w'.cell? ⟨w.heap.size,1,none⟩=some s1)/\ (w'.cell? ⟨w.heap.size+1+1,0,none⟩=some y0/\w'.cell? ⟨w.heap.size+1+1,1,none⟩=some y1/\w'.cell? ⟨w.heap.size+1+1,2,none⟩=some y2/\w'.cell? ⟨w.heap.size+1+1,3,none⟩=some i)/\nV (w.heap.size+1+1+1) w':=by
 have m:=d.size;simp at m;have l:=λo=>d.cell (p:=⟨w.heap.size,o,none⟩) (by simp;omega);have g:=λo=>d.cell (p:=⟨w.heap.size+1+1,o,none⟩) (by simp;try omega);have k:=λo=>d.cell (p:=⟨w.heap.size+1+1+1,o,none⟩) (by simp);have j:=λo=>d.frozen (p:=⟨w.heap.size+1+1+1,o,none⟩) (by simp)
 exact⟨⟨(l 0).trans (by simp[go_sem]),(l 1).trans (by simp[go_sem])⟩,⟨(g 0).trans (by simp[go_sem]),(g 1).trans (by simp[go_sem]),(g 2).trans (by simp[go_sem]),(g 3).trans (by simp[go_sem])⟩,
  ⟨(k 0).trans (by simp[go_sem]),(k 1).trans (by simp[go_sem]),(k 2).trans (by simp[go_sem]),(k 3).trans (by simp[go_sem])⟩,⟨(j 0).trans (by simp[go_sem]),(j 1).trans (by simp[go_sem]),(j 2).trans (by simp[go_sem]),(j 3).trans (by simp[go_sem])⟩,by omega⟩
theorem dj(a:ak w w')(c:w.heap.size<=q)(v0 v1 v2 v3:av):ak w (di w' q 0 v0 v1 v2 v3):=
 ⟨a.os,a.tape,a.output,aD a.size (dF (bA _ _ _ _).symm),λk b=>(bj (by omega) _ _ _ _).trans (a.block k b)⟩
theorem KY(N:Nat)(p q:Option (Tm N))(B:Hid (O1 p))(C:Hid (O1 q))(a:aw)(c:Nat)(self:Int)(D E:Int)(F:ap)(xa:aw)(G xc:Nat)(y0 y1:Int)(y2:ap)(ya:aw)(yl yc:Nat)(w:ag)(u:Hid (∀w1,ak w w1->am 210 #[.agg #[ae a 4 c,ab self],.agg #[ab D,ab E,af F,ae xa G xc]] w1 (NS p w1)))(x:Hid (∀w1,ak w w1->am 210 #[.agg #[ae a 4 c,ab self],.agg #[ab y0,ab y1,af y2,ae ya yl yc]] w1 (NS q w1))):am 207 #[.agg #[ae a 4 c,ab self],.agg #[ab D,ab E,af F,ae xa G xc],.agg #[ab y0,ab y1,af y2,ae ya yl yc]] w (kh (N+1) (wW p q) w):=by
 obtain⟨o,t⟩:∃o,o=wW p q:=⟨_,rfl⟩;rw[<-t];have l:=au t;clear t;go_enter func207,ntmps207;go_wp2_with fail;refine(u _ (nB _ _ _ _ _)).mono ?_;rintro O V ⟨b,j,rfl,d⟩;obtain⟨⟨T,U⟩,⟨K,d1,L,M⟩,A⟩:=Dn d.1;have r:=au A;have HB:Hid (ak w V):=(nB _ _ _ _ _).trans (d.1.mono (nB _ _ _ _ _).size);have m:Hid (j=_/\_):=d.2;clear u d A;cases j
 ·have e:Hid (o=none):=l.trans (MZ m.1.symm);obtain⟨⟨f,g,h,i⟩,⟨P,Q,R,S⟩,_⟩:=r.out;go_wp2_with fail;rw[e.out];exact az (v:=.tuple #[.agg #[ab 0,ab 0,af .empty,ae none 0 0],.bool false]) (by simp[results,results207,go_sem,f,g,h,i];rfl) rfl (kK (dj HB (by omega) _ _ _ _))
 ·go_wp2_with fail;refine(x _ HB).mono ?_;rintro O W ⟨v,j,rfl,d⟩;have k:Hid (ak w W):=HB.trans (d.1.mono HB.size);have n:Hid (j=_/\_):=d.2;have H:=au (r.below d.1);obtain⟨⟨f,g,h,i⟩,⟨P,Q,R,S⟩,_⟩:=H;clear x d HB T U K d1 L M r;cases j
  ·have e:Hid (o=none):=l.trans (KV n.1.symm);go_wp2_with fail;rw[e.out];exact az (v:=.tuple #[.agg #[ab 0,ab 0,af .empty,ae none 0 0],.bool false]) (by simp[results,results207,go_sem,f,g,h,i];rfl) rfl (kK (dj k (by omega) _ _ _ _))
  ·obtain⟨es,⟨Y,Z⟩,aa,ad⟩:=KW m.1 n.1 m.2 n.2 B C;have s:Hid (o=if -1099511627776<=b+v/\b+v<=1099511627776 then some (bT 1 (b+v) N)else none):=l.trans es;have X:IntKind.i64.wrap (b+v)=b+v:=by rw[IntKind.wrap];simp[IntKind.bits,IntKind.signed];omega
   clear l m n es B C;by_cases y:b+v< -1099511627776
   ·have I:decide (b+v< -1099511627776)=true:=by simpa using y
    have e:Hid (o=none):=s.trans (if_neg (by omega));go_wp2_with fail;rw[e.out];exact az (v:=.tuple #[.agg #[ab 0,ab 0,af .empty,ae none 0 0],.bool false]) (by simp[results,results207,go_sem,f,g,h,i];rfl) rfl (kK (dj k (by omega) _ _ _ _))
   ·have I:decide (b+v< -1099511627776)=false:=by simpa using y
    by_cases z:1099511627776<b+v
    ·have J:decide (1099511627776<b+v)=true:=by simpa using z
     have e:Hid (o=none):=s.trans (if_neg (by omega));go_wp2_with fail;rw[e.out];exact az (v:=.tuple #[.agg #[ab 0,ab 0,af .empty,ae none 0 0],.bool false]) (by simp[results,results207,go_sem,f,g,h,i];rfl) rfl (kK (dj k (by omega) _ _ _ _))
    ·have J:decide (1099511627776<b+v)=false:=by simpa using z
     have e:Hid (o=some (bT 1 (b+v) N)):=s.trans (if_pos (by omega));go_wp2_with fail;rw[e.out];exact az (v:=.tuple #[.agg #[ab 1,ab (b+v),af .empty,ae none 0 0],.bool true]) (by simp[results,results207,go_sem,f,g,h,i];rfl) rfl (yy (dj k (by omega) _ _ _ _) 1 (b+v) (by simp[dC]) ⟨by omega,by omega⟩)
def wm{n N:Nat}(f:Tm n->Option (Tm N))(p:List (Tm n)):List (Tm N):=p.map λy=>(f y).getD (aY N 0 ())
def Ns{n N:Nat}(f:Tm n->Option (Tm N))(p:List (Tm n))(k:Nat):Prop:=∀(i:Nat)(y:Tm n),i<k->p[i]?=some y->(f y).isSome=true
theorem Lg{f:Tm n->Option (Tm N)}{p:List (Tm n)}(c:Ns f p k)(h:p.length<=k):cQ f p=some (wm f p):=by
 refine xg f _ p λb e=>?_;obtain⟨g,a⟩:=dd e;have i:=(aX.1 a).1;have:=c g b (by omega) a;cases d:f b with
 | none=>rw[d]at this;cases this
 | some j=>rfl
theorem Ns.next{f:Tm n->Option (Tm N)}{p:List (Tm n)}{x:Tm n}(d:Ns f p k)(g:p[k]?=some x)(e:true=(f x).isSome):Ns f p (k+1):=by
 intro b h i a;by_cases c:b=k
 ·subst c;rw[g]at a;obtain rfl:=aA a;exact e.symm
 ·exact d b h (by omega) a
theorem Nb{f:Tm n->Option (Tm N)}{p:List (Tm n)}{x:Tm n}(d:p[k]?=some x)(c:true=(f x).isSome):∃a,(wm f p)[k]?=some a/\f x=some a:=by
 cases b:f x with
 | none=>rw[b]at c;cases c
 | some a=>exact⟨a,by simp[wm,d,b],rfl⟩
theorem IC{P:List (Tm N)}{wr:ag}{l:List (Tm N)}(j:ur N P len g k l wr)(v:P.length=len)(p:k=len)(n:ak w wr)(x:len<=8)(q:Nat)(r:w.heap.size<=q)(y:q<g)(v0 v1 v2 v3:av):kh (N+1) (some (dl N P)) w (.returned (.tuple #[.agg #[ab 4,ab 0,af .empty,ae (some ⟨g,0,none⟩) len len],.bool true])) (di wr q 0 v0 v1 v2 v3):=by
 obtain⟨m,c,e,f⟩:=j;subst p;rw[bF (by omega)]at f;rw[hU,nb,eK]at c;refine⟨((4,0,.empty),(some ⟨g,0,none⟩,k),l),true,?_,dj n r _ _ _ _,?_,?_,rfl,λz t=>?_⟩
 ·simp only[dw,m]
 ·refine⟨⟨by simp[dC],by simp[dC],aL _,by simp only;omega,by unfold maxLen;simp only;omega⟩,aj ⟨g,0,rfl,by rw[bA];exact c.lt.2,λh b a=>?_⟩⟩;obtain⟨i,u⟩:=e b (aN a);have o:=c.cells h ⟨N,b⟩ (by simp[a]);refine⟨dH.block (bj (by omega) _ _ _ _) ?_,?_⟩
  ·cases N with
   | zero=>exact i.elim
   | succ N=>
    rw[de];exact o
  ·rw[bA];exact In.off (P:=λd=>g<d) (λd s=>bj (by omega) _ _ _ _) u i
 ·exact aj ⟨g,0,rfl,by omega,λh b a=>(e b (aN a)).2.mono λd s=>by omega⟩
 ·obtain rfl:=aA t;exact dh rfl f
theorem Lh(f:Tm n->Option (Tm N))(p:List (Tm n)):(wm f p).length=p.length:=by simp[wm]
theorem ur.grow{P:List (Tm N)}{l:List (Tm N)}(e:ur N P len g k l w)(a:ak w w'):ur N P len g k l w':=by
 obtain⟨f,h,b,i⟩:=e;exact⟨f,h.below a,λd c=>⟨((b d c).1.below a).mono a.size,(b d c).2⟩,i⟩
theorem nV.block(h:nV q w)(c:w'.heap[q]?=w.heap[q]?)(n:w.heap.size<=w'.heap.size):nV q w':=by
 obtain⟨⟨i,j,k,l⟩,⟨d,e,f,g⟩,m⟩:=h;have a:=λo=>bD c o;have b:∀o,w'.frozen? ⟨q,o,none⟩=w.frozen? ⟨q,o,none⟩:=λo=>by simp[World.frozen?,c]
 exact⟨⟨(a 0).trans i,(a 1).trans j,(a 2).trans k,(a 3).trans l⟩,⟨(b 0).trans d,(b 1).trans e,(b 2).trans f,(b 3).trans g⟩,aW m n⟩
theorem uW(a:w.grownBy w' none):ak w w':=⟨a.os,a.tape,a.output,a.size,λk b=>a.block k b (by simp)⟩
theorem yQ(f:((w.alloc (.cells #[s0,s1] t1)).alloc (.cells #[ab 0,ab 0,af .empty,ae none 0 0] t2)).grownBy w' none):ak w w'/\(w'.cell? ⟨w.heap.size,0,none⟩=some s0/\w'.cell? ⟨w.heap.size,1,none⟩=some s1)/\nV (w.heap.size+1) w':=by
 have a:=uW f;have g:=a.size;simp at g;have d:ak w ((w.alloc (.cells #[s0,s1] t1)).alloc (.cells #[ab 0,ab 0,af .empty,ae none 0 0] t2)):=((aq _ _).alloc (ao _) _).alloc (by simp) _;have e:=λo=>a.cell (p:=⟨w.heap.size,o,none⟩) (by simp;omega);have c:=λo=>a.cell (p:=⟨w.heap.size+1,o,none⟩) (by simp);have b:=λo=>a.frozen (p:=⟨w.heap.size+1,o,none⟩) (by simp)
 exact⟨d.trans (a.mono d.size),⟨(e 0).trans (by simp[go_sem]),(e 1).trans (by simp[go_sem])⟩,
  ⟨(c 0).trans (by simp[go_sem]),(c 1).trans (by simp[go_sem]),(c 2).trans (by simp[go_sem]),(c 3).trans (by simp[go_sem])⟩,⟨(b 0).trans (by simp[go_sem]),(b 1).trans (by simp[go_sem]),(b 2).trans (by simp[go_sem]),(b 3).trans (by simp[go_sem])⟩,by omega⟩
theorem Cz(m:Nat)(b:List (Tm m))(self:Int)(n:Nat)(ih:Hid (NQ m b self n))(p:List (Tm n))(len:Nat)(W:Hid (p.length=len))(pa:aw)(pc:Nat)(a:aw)(c B:Nat)(w:ag)(a4:len<=8)(V:Hid (fM B w n p pa))(a6:Hid (∀y∈p,aI ⟨n,y⟩))(aC:Hid (fM B w m b a))(H:B<=w.heap.size):am 208 #[.agg #[ae a 4 c,ab self],ae pa len pc] w (kh (m+n+1) ((cQ (λy=>vl m b self n y) p).map (dl (m+n))) w):=by
 obtain⟨o,T⟩:∃o,o=(cQ (λy=>vl m b self n y) p).map (dl (m+n)):=⟨_,rfl⟩;rw[<-T];have av:=au T;clear T;obtain⟨a8,aG,aO,aP,aQ⟩:=bW gw;go_enter func208,ntmps208;go_wp2_with (at_make;refine kY _ rfl _ _ 29 rfl _ 31 a8 _ 4 underlying29 aG aO aP _ _ _ _ len rfl rfl rfl rfl (by rw[aQ];omega) (by unfold maxLen;omega) (ao _) ?_;intro h aJ S;have t:=au (rq (m+n) (wm (λy=>vl m b self n y) p) len aJ);have aV:=au (uW S);have aA:=au (yQ S);clear aJ S aG aO aP aQ);have es:((w.alloc (.cells #[ae a 4 c,ab self] 278)).alloc (.cells #[ab 0,ab 0,af ⟨#[]⟩,ae none 0 0] 31)).heap.size=w.heap.size+1+1:=by simp
 rw[es]at t;clear es aV;obtain⟨aE,aF,D⟩:=aA.out
 have ap:Hid (ak w h/\(h.cell? ⟨w.heap.size,0,none⟩=some (ae a 4 c)/\h.cell? ⟨w.heap.size,1,none⟩=some (ab self))/\nV (w.heap.size+1) h/\Ns (λy=>vl m b self n y) p 0/\∃l,ur (m+n) (wm (λy=>vl m b self n y) p) len (w.heap.size+1+1) 0 l h):=
  ⟨aE,aF,D,λs y bq _=>by omega,[],t.out⟩
 clear aA t aE aF D;go_wp2_with fail;go_loopw [16] (λs wr=>∃k:Nat,k<=len/\s=ab k/\Hid (ak w wr/\(wr.cell? ⟨w.heap.size,0,none⟩=some (ae a 4 c)/\wr.cell? ⟨w.heap.size,1,none⟩=some (ab self))/\nV (w.heap.size+1) wr/\Ns (λy=>vl m b self n y) p k/\∃l,ur (m+n) (wm (λy=>vl m b self n y) p) len (w.heap.size+1+1) k l wr)) (λs _=>len-(intOf s).toNat)
 case atStart=>exact⟨0,by omega,rfl,ap.out⟩
 case round=>
  obtain⟨k,br,rfl,ay⟩:=hrel;clear ap;obtain⟨i,⟨Z,aa⟩,G,x,l,j⟩:Hid (ak w wr)/\(wr.cell? ⟨w.heap.size,0,none⟩=some (ae a 4 c)/\wr.cell? ⟨w.heap.size,1,none⟩=some (ab self))/\Hid (nV (w.heap.size+1) wr)/\Hid (Ns (λy=>vl m b self n y) p k)/\∃l,Hid (ur (m+n) (wm (λy=>vl m b self n y) p) len (w.heap.size+1+1) k l wr):=ay.out;clear ay;by_cases aH:k<len
  ·obtain⟨d,u⟩:∃d,p[k]?=some d:=⟨p[k]'(by rw[W.out];exact aH),aM _⟩;obtain⟨E,po,rfl,a5,aK⟩:∃E po,pa=some ⟨E,po,none⟩/\E<B/\∀(s:Nat)(y:Tm n),p[s]?=some y->dH w E (po+s*4) n y/\In B w n y:=by
    rcases V.out with P|P
    ·rw[P]at u;simp at u
    ·exact P
   obtain⟨I,J⟩:=aK k d u;have N:=au u;have aX:=au (a6.out d (aN u));replace I:=I.below (i.out.mono H) a5;replace J:=J.below (i.out.mono H);have Q:B<=wr.heap.size:=aD H i.out.size
   have F:Hid (∀h,ak wr h->am 189 #[.agg #[ae a 4 c,ab self],dw n d] h (kh (m+n) (vl m b self n d) h)):=
    λh g=>ih.out d a c B h (J.below (g.mono Q)) aX.out ((aC.out.below (i.out.mono H)).below (g.mono Q)) (aD Q g.size)
   obtain⟨Y,U⟩:∃Y,Y=vl m b self n d:=⟨_,rfl⟩;rw[<-U]at F;have L:=au U;clear aK u V U J;cases n with
   | zero=>exact I.elim
   | succ n=>
   obtain⟨bf,bg,bh,bi⟩:=I;have A:dw (n+1) d=.agg #[ab d.1.1,ab d.1.2.1,af d.1.2.2,ae d.2.1.1 d.2.2.length d.2.1.2]:=rfl;rw[A]at F;clear A;generalize d.2.2.length=bv at*;have bs:(0:Int)<=(k:Int):=by omega
   have bt:(k:Int)<(len:Int):=by omega
   have bu:E<wr.heap.size:=by omega
   have aL:w.heap.size<wr.heap.size:=by have:=G.out.2.2;omega
   go_wp2_with fail;refine(F.out _ ((aq _ _).alloc (ao _) _)).mono ?_;rintro bo e ⟨y,ba,rfl,q⟩;have r:Hid (ak wr e):=((aq _ _).alloc (ao _) _).trans (q.out.1.mono (by simp));have aB:Hid (ak w e):=i.out.trans (r.out.mono i.out.size);have O:=au (G.out.below r.out);replace Z:=(ax r.out _ _ aL).trans Z;replace aa:=(ax r.out _ _ aL).trans aa;have A:dw (m+(n+1)) y=.agg #[ab y.1.1,ab y.1.2.1,af y.1.2.2,ae y.2.1.1 y.2.2.length y.2.1.2]:=rfl;rw[A];clear F bf bg bh bi G A;cases ba
   ·have K:Hid (o=none):=by
      have g:vl m b self (n+1) d=none:=by
       have:=q.out.2.2.2.1;rw[<-L.out];cases Y with
       | none=>rfl
       | some ad=>cases this
      show o=none;rw[av.out,mm _ p k d N.out g];rfl
    obtain⟨⟨ah,ai,aj,al⟩,⟨aZ,a0,a1,a2⟩,aS⟩:=O.out;clear q j x;go_wp2_with fail;rw[K.out];exact az (v:=.tuple #[.agg #[ab 0,ab 0,af .empty,ae none 0 0],.bool false]) (by simp[results,results208,go_sem,ah,ai,aj,al,aS];rfl) rfl (kK ((dj aB.out (by omega) _ _ _ _).alloc (by rw[bA];omega) _))
   ·have R:true=(vl m b self (n+1) d).isSome:=by rw[<-L.out];exact q.out.2.2.2.1
    obtain⟨ad,D,aR⟩:=Nb (f:=λy=>vl m b self (n+1) y) N.out R;have ar:=au (x.out.next N.out R);have t:=au (j.out.step aH ad D r.out y q.out.2.1 (q.out.2.2.1.mono λaU X=>by have:=j.out.2.1.lt.2;simp at X;omega) (q.out.2.2.2.2 ad (by rw[L.out];exact aR)));have z:=au (j.out.2.1.below r.out);have M:Hid (ak w (jD e (w.heap.size+1+1) (k*4) (gu (m+(n+1)) y))):=by
     have g:=aB.out;exact⟨g.os,g.tape,g.output,aD g.size (dF (bA _ _ _ _).symm),λaU X=>(bj (by omega) _ _ _ _).trans (g.block aU X)⟩
    have aW:Hid (∀o:Obj,ak w ((jD e (w.heap.size+1+1) (k*4) (gu (m+(n+1)) y)).alloc o)/\(((jD e (w.heap.size+1+1) (k*4) (gu (m+(n+1)) y)).alloc o).cell? ⟨w.heap.size,0,none⟩=some (ae a 4 c)/\((jD e (w.heap.size+1+1) (k*4) (gu (m+(n+1)) y)).alloc o).cell? ⟨w.heap.size,1,none⟩=some (ab self))/\nV (w.heap.size+1) ((jD e (w.heap.size+1+1) (k*4) (gu (m+(n+1)) y)).alloc o)/\Ns (λy=>vl m b self (n+1) y) p (k+1)/\∃l,ur (m+(n+1)) (wm (λy=>vl m b self (n+1) y) p) len (w.heap.size+1+1) (k+1) l ((jD e (w.heap.size+1+1) (k*4) (gu (m+(n+1)) y)).alloc o)):=by
     intro o;have C:Below (jD e (w.heap.size+1+1) (k*4) (gu (m+(n+1)) y)).heap.size (jD e (w.heap.size+1+1) (k*4) (gu (m+(n+1)) y)) ((jD e (w.heap.size+1+1) (k*4) (gu (m+(n+1)) y)).alloc o):=(aq _ _).alloc (ao _) _;have a7:(jD e (w.heap.size+1+1) (k*4) (gu (m+(n+1)) y)).heap.size=e.heap.size:=bA _ _ _ _;have a3:=z.out.lt.2;refine⟨M.out.trans (C.mono M.out.size),⟨?_,?_⟩,?_,ar.out,l++ [y],t.out.grow C⟩
     ·exact(ax C _ _ (by omega)).trans ((bD (bj (by omega) _ _ _ _) _).trans Z)
     ·exact(ax C _ _ (by omega)).trans ((bD (bj (by omega) _ _ _ _) _).trans aa)
     ·refine nV.below ?_ C;exact O.out.block (bj (by omega) _ _ _ _) (dF a7.symm)
    obtain⟨an,aT⟩:∃an,(l.map (λd=>(⟨m+(n+1),d⟩:An))++List.replicate (len-k) zA)[k]?=some an:=⟨_,aM (by simp[j.out.1];omega)⟩;obtain⟨bk,bl,bm,bn⟩:=z.out.cells k an aT;have bp:=λa9=>z.out.free a9;have a3:w.heap.size+1+1<e.heap.size:=z.out.lt.2;clear q j x r i t ar M z aT O D aR R;go_wp2_with fail;go_roundw
    case rel=>exact⟨k+1,by omega,by go_num,aW.out _⟩
    case measure=>simp[intOf];omega
  ·obtain rfl:k=len:=by omega
   have K:Hid (o=some (dl (m+n) (wm (λy=>vl m b self n y) p))):=by
    show o=_;rw[av.out,Lg x.out (by rw[W.out];exact ao _)];rfl
   have aY:=λbb bc bd be=>au (IC j.out (by rw[Lh];exact W.out) rfl i.out a4 (w.heap.size+1) (by omega) (by omega) bb bc bd be);obtain⟨⟨ah,ai,aj,al⟩,⟨aZ,a0,a1,a2⟩,aS⟩:=G.out;clear x j i V aC;go_wp2_with fail;rw[K.out];exact az (v:=.tuple #[.agg #[ab 4,ab 0,af .empty,ae (some ⟨w.heap.size+1+1,0,none⟩) k k],.bool true]) (by simp[results,results208,go_sem,ah,ai,aj,al];rfl) rfl (aY _ _ _ _).out
theorem Bu{P:aR}:(N n:Nat)->n<=N->(x:Tm n)->cr P n x->cr P N (aY N n x)
 | _,0,_,_,k=>k.elim
 | 0,n+1,h,_,_=>by omega
 | N+1,n+1,h,x,k=>by
  rcases k with k|⟨b,o,e,d,k⟩
  ·exact ai (by simp[aY,k])
  ·refine aj ⟨b,o,e,d,λi y a=>?_⟩;simp only[aY,dy]at a;obtain⟨c,f,rfl⟩:=cw.1 a;exact Bu N n (by omega) c (k i c f)
theorem J9(N n:Nat)(x:Tm (n+1)):dw (N+1) (aY (N+1) (n+1) x)=dw (n+1) x:=by simp[dw,aY]
theorem J8(d:n<=N){x y:Tm (n+1)}(a:aI ⟨n+1,x⟩)(b:aB (n+1) y (n+1) x=true):aB (N+1) (aY (N+1) (n+1) y) (N+1) (aY (N+1) (n+1) x)=true:=by
 have c:aI ⟨n+1,y⟩:=aT.2 (by rw[jG _ _ _ _ b];exact aT.1 a);exact bM _ _ _ _ _ _ (fG (N+1) (n+1) (by omega) y c) (bM _ _ _ _ _ _ b (dB _ _ _ _ (fG (N+1) (n+1) (by omega) x a)))
theorem IJ(b:n<=N){x y:Tm (n+1)}(f:aI ⟨n+1,x⟩)(c:ak w w')(d:In w'.heap.size w' (n+1) y)(e:cr (λq=>w.heap.size<=q) (n+1) y)(g:aB (n+1) y (n+1) x=true)(r:Bool):kh (N+1) (if r then some (aY (N+1) (n+1) x)else none) w (.returned (.tuple #[.agg #[ab y.1.1,ab y.1.2.1,af y.1.2.2,ae y.2.1.1 y.2.2.length y.2.1.2],.bool r])) w':=by
 refine⟨aY (N+1) (n+1) y,r,by rw[J9];rfl,c,oX _ _ (by omega) _ _ _ d,Bu _ _ (by omega) _ e,by cases r<;>rfl,λh a=>?_⟩;cases r with
 | false=>cases a
 | true=>
  obtain rfl:=aA a;exact J8 b f g
theorem wv{o:Option (Tm (N+1))}{y:Tm (N+1)}(c:ak w w1)(k:w.heap.size<=q)(m:q<w1.heap.size)(e:ak w1 w2/\In w2.heap.size w2 (N+1) y/\cr (λq=>w1.heap.size<=q) (N+1) y/\r=o.isSome/\∀d,o=some d->aB (N+1) y (N+1) d=true)(v0 v1 v2 v3:av):kh (N+1) o w (.returned (.tuple #[.agg #[ab y.1.1,ab y.1.2.1,af y.1.2.2,ae y.2.1.1 y.2.2.length y.2.1.2],.bool r])) (di w2 q 0 v0 v1 v2 v3):=by
 obtain⟨f,g,a,h,i⟩:=e;have l:=c.size;refine⟨y,r,rfl,dj (c.trans (f.mono l)) k _ _ _ _,?_,a.mono λb j=>by omega,h,i⟩;rw[bA];exact In.off (P:=λb=>w1.heap.size<=b) (λb j=>bj (by omega) _ _ _ _) a g
theorem ww(h:n<=N){x y:Tm (n+1)}{g:ag}(p:aI ⟨n+1,x⟩)(e:ak w w1)(o:w.heap.size<=q)(s:q<w1.heap.size)(k:ak w1 w2/\In w2.heap.size w2 (n+1) y/\cr (λq=>w1.heap.size<=q) (n+1) y/\aB (n+1) y (n+1) x=true)(a:ak w2 g)(r:Bool)(v0 v1 v2 v3:av):kh (N+1) (if r then some (aY (N+1) (n+1) x)else none) w (.returned (.tuple #[.agg #[ab y.1.1,ab y.1.2.1,af y.1.2.2,ae y.2.1.1 y.2.2.length y.2.1.2],.bool r])) (di g q 0 v0 v1 v2 v3):=by
 obtain⟨c,i,d,j⟩:=k;have f:=e.size;have l:=(e.trans (c.mono f)).trans (a.mono (aD f c.size));refine IJ h p (dj l o _ _ _ _) ?_ (d.mono λb m=>by omega) j r;rw[bA];exact In.off (P:=λb=>w1.heap.size<=b) (λb m=>bj (by omega) _ _ _ _) d ((i.below a).mono a.size)
theorem Ai:ak w ((w.alloc (.cells #[s0,s1] t1)).alloc (.cells #[ab 0,ab 0,af .empty,ae none 0 0] t2))/\nV (w.heap.size+1) ((w.alloc (.cells #[s0,s1] t1)).alloc (.cells #[ab 0,ab 0,af .empty,ae none 0 0] t2)):=by
 have a:=yQ (w:=w) (s0:=s0) (s1:=s1) (t1:=t1) (t2:=t2) (w':=(w.alloc (.cells #[s0,s1] t1)).alloc (.cells #[ab 0,ab 0,af .empty,ae none 0 0] t2)) (gI _ _);exact⟨a.1,a.2.2⟩
theorem Aj(a:w1=(w.alloc (.cells #[s0,s1] t1)).alloc (.cells #[ab 0,ab 0,af .empty,ae none 0 0] t2)):ak w w1/\nV (w.heap.size+1) w1/\w1.cell? ⟨w.heap.size,0,none⟩=some s0/\w1.cell? ⟨w.heap.size,1,none⟩=some s1:=by
 subst a;have a:=yQ (w:=w) (s0:=s0) (s1:=s1) (t1:=t1) (t2:=t2) (w':=(w.alloc (.cells #[s0,s1] t1)).alloc (.cells #[ab 0,ab 0,af .empty,ae none 0 0] t2)) (gI _ _);exact⟨a.1,a.2.2,a.2.1.1,a.2.1.2⟩
theorem Nf(N:Nat)(o:Option (Tm (N+1)))(a:aw)(c:Nat)(self:Int)(j:dC self)(pa:aw)(len:Nat)(pc:Nat)(w:ag)(d:Hid (∀w1,ak w w1->am 206 #[ae pa len pc,af p8,ab 0] w1 λe w'=>e=.returned (.bool true)/\w'=w1))(i:Hid (o=some (bT 3 self N))):am 202 #[.agg #[ae a 4 c,ab self],ae pa len pc] w (kh (N+1) o w):=by
 go_enter func202,ntmps202;go_wp2_with fail;refine(d _ Ai.1).mono ?_;rintro e w1 ⟨rfl,g⟩;obtain⟨f,b,x,y⟩:=Aj g;have HB:=au f;have h:=au b;have t:w.heap.size<w1.heap.size:=by have:=b.2.2;omega
 clear g f b d;obtain⟨⟨k,l,m,n⟩,⟨p,q,r,s⟩,u⟩:=h;go_wp2_with fail;rw[i.out];exact az (v:=.tuple #[.agg #[ab 3,ab self,af .empty,ae none 0 0],.bool true]) (by simp[results,results202,go_sem,k,l,m,n];rfl) rfl (yy (dj HB (by omega) _ _ _ _) 3 self (by simp[dC]) j)
theorem OO(N:Nat)(o:Option (Tm (N+1)))(a:aw)(c:Nat)(self:Int)(b po:Nat)(j k:Int)(l:ap)(xa:aw)(m xc:Nat)(y0 y1:Int)(y2:ap)(ya:aw)(yl yc:Nat)(pc:Nat)(w:ag)(p:Hid (∀w1,ak w w1->am 206 #[ae (some ⟨b,po,none⟩) 3 pc,af p8,ab 0] w1 λe w'=>e=.returned (.bool false)/\w'=w1))(D:Hid (∀w1,ak w w1->am 206 #[ae (some ⟨b,po,none⟩) 3 pc,af wC,ab 2] w1 λe w'=>e=.returned (.bool true)/\w'=w1))(g:b<w.heap.size)(G:w.cell? ⟨b,po+4,none⟩=some (ab j)/\w.cell? ⟨b,po+4+1,none⟩=some (ab k)/\w.cell? ⟨b,po+4+2,none⟩=some (af l)/\w.cell? ⟨b,po+4+3,none⟩=some (ae xa m xc))(H:w.cell? ⟨b,po+8,none⟩=some (ab y0)/\w.cell? ⟨b,po+8+1,none⟩=some (ab y1)/\w.cell? ⟨b,po+8+2,none⟩=some (af y2)/\w.cell? ⟨b,po+8+3,none⟩=some (ae ya yl yc))(E:Hid (∀w1,ak w w1->am 207 #[.agg #[ae a 4 c,ab self],.agg #[ab j,ab k,af l,ae xa m xc],.agg #[ab y0,ab y1,af y2,ae ya yl yc]] w1 (kh (N+1) o w1))):am 202 #[.agg #[ae a 4 c,ab self],ae (some ⟨b,po,none⟩) 3 pc] w (kh (N+1) o w):=by
 go_enter func202,ntmps202;go_wp2_with fail;refine(p _ Ai.1).mono ?_;rintro e w1 ⟨rfl,r⟩;obtain⟨q,i,ai,aj⟩:=Aj r;have HB:=au q;have n:=au i;have ad:w.heap.size<w1.heap.size:=by have:=i.2.2;omega
 clear r q i p;have f:=ax HB;obtain⟨s,t,u,x⟩:=G;obtain⟨y,z,A,B⟩:=H;replace s:=(f _ _ g).trans s;replace t:=(f _ _ g).trans t;replace u:=(f _ _ g).trans u;replace x:=(f _ _ g).trans x;replace y:=(f _ _ g).trans y;replace z:=(f _ _ g).trans z;replace A:=(f _ _ g).trans A;replace B:=(f _ _ g).trans B;clear f;go_wp2_with fail;refine(D _ HB).mono ?_;rintro e P ⟨rfl,rfl⟩;have aa:b<P.heap.size:=aW g HB.size;have Y:¬(w.heap.size+1=b):=by omega
 have Z:¬(b=w.heap.size+1):=by omega
 have I:∀d:Tm (N+1),dw (N+1) d=.agg #[ab d.1.1,ab d.1.2.1,af d.1.2.2,ae d.2.1.1 d.2.2.length d.2.1.2]:=λ_=>rfl;go_wp2_with fail
 go_region_held3 (λw'=>w'.cell? ⟨w.heap.size,0,none⟩=some (ae a 4 c)/\w'.cell? ⟨w.heap.size,1,none⟩=some (ab self)/\w'.cell? ⟨b,po+4,none⟩=some (ab j)/\w'.cell? ⟨b,po+4+1,none⟩=some (ab k)/\w'.cell? ⟨b,po+4+2,none⟩=some (af l)/\w'.cell? ⟨b,po+4+3,none⟩=some (ae xa m xc)
     /\w'.cell? ⟨b,po+8,none⟩=some (ab y0)/\w'.cell? ⟨b,po+8+1,none⟩=some (ab y1)/\w'.cell? ⟨b,po+8+2,none⟩=some (af y2)/\w'.cell? ⟨b,po+8+3,none⟩=some (ae ya yl yc))
  (go_keep) ((go_at_call 207;refine(E _ HB.drew).mono ?_;rintro e al ⟨d,J,rfl,h⟩;rw[I];have f:=ax (cR h.1);have C:=au (n.below (cR h.1));obtain⟨⟨Q,R,S,T⟩,⟨U,V,W,X⟩,ah⟩:=C))
 have F:=λK L M O=>au (wv HB.drew (g9 _ 1) n.2.2 h K L M O);clear h f;go_wp2_with fail;exact az (v:=.tuple #[.agg #[ab d.1.1,ab d.1.2.1,af d.1.2.2,ae d.2.1.1 d.2.2.length d.2.1.2],.bool J]) (by simp[results,results202,go_sem,Q,R,S,T]) rfl (F _ _ _ _)
theorem OP(N:Nat)(o:Option (Tm (N+1)))(a:aw)(c:Nat)(self:Int)(b po:Nat)(n:Nat)(L:n<=N)(x:Tm (n+1))(cl:Bool)(pc:Nat)(w:ag)(l:Hid (∀w1,ak w w1->am 206 #[ae (some ⟨b,po,none⟩) 2 pc,af p8,ab 0] w1 λe w'=>e=.returned (.bool false)/\w'=w1))(C:Hid (∀w1,ak w w1->am 206 #[ae (some ⟨b,po,none⟩) 2 pc,af wC,ab 2] w1 λe w'=>e=.returned (.bool false)/\w'=w1))(D:Hid (∀w1,ak w w1->am 206 #[ae (some ⟨b,po,none⟩) 2 pc,af CG,ab 1] w1 λe w'=>e=.returned (.bool true)/\w'=w1))(f:b<w.heap.size)(M:dH w b (po+4) (n+1) x)(H:Hid (aI ⟨n+1,x⟩))(G:Hid (∀w1,ak w w1->am 56 #[.agg #[ab x.1.1,ab x.1.2.1,af x.1.2.2,ae x.2.1.1 x.2.2.length x.2.1.2]] w1 λe w'=>∃y:Tm (n+1),e=.returned (dw (n+1) y)/\Hid (ak w1 w'/\In w'.heap.size w' (n+1) y/\cr (λq=>w1.heap.size<=q) (n+1) y/\aB (n+1) y (n+1) x=true)))(E:Hid (∀w1,ak w w1->am 54 #[.agg #[ab x.1.1,ab x.1.2.1,af x.1.2.2,ae x.2.1.1 x.2.2.length x.2.1.2]] w1 λe w'=>e=.returned (.bool cl)/\ak w1 w'))(F:Hid (o=if cl then some (aY (N+1) (n+1) x)else none)):am 202 #[.agg #[ae a 4 c,ab self],ae (some ⟨b,po,none⟩) 2 pc] w (kh (N+1) o w):=by
 go_enter func202,ntmps202;go_wp2_with fail;refine(l _ Ai.1).mono ?_;rintro e w1 ⟨rfl,p⟩;obtain⟨m,i,ao,ap⟩:=Aj p;have HB:=au m;have k:=au i;have al:w.heap.size<w1.heap.size:=by have:=i.2.2;omega
 clear p m i l;have d:=ax HB;obtain⟨t,u,z,A⟩:=M;replace t:=(d _ _ f).trans t;replace u:=(d _ _ f).trans u;replace z:=(d _ _ f).trans z;replace A:=(d _ _ f).trans A;clear d;generalize x.2.2.length=S at*;go_wp2_with fail;refine(C _ HB).mono ?_;rintro e r ⟨rfl,rfl⟩;go_wp2_with fail;refine(D _ HB).mono ?_;rintro e r ⟨rfl,rfl⟩;have ai:b<r.heap.size:=aW f HB.size;have ad:¬(w.heap.size+1=b):=by omega
 have ah:¬(b=w.heap.size+1):=by omega
 have J:∀y:Tm (n+1),dw (n+1) y=.agg #[ab y.1.1,ab y.1.2.1,af y.1.2.2,ae y.2.1.1 y.2.2.length y.2.1.2]:=λ_=>rfl;go_wp2_with fail
 go_region_held3 (λw'=>w'.cell? ⟨b,po+4,none⟩=some (ab x.1.1)/\w'.cell? ⟨b,po+4+1,none⟩=some (ab x.1.2.1)/\w'.cell? ⟨b,po+4+2,none⟩=some (af x.1.2.2)/\w'.cell? ⟨b,po+4+3,none⟩=some (ae x.2.1.1 S x.2.1.2))
  (go_keep) ((first|(go_at_call 56;refine(G _ HB.drew).mono ?_;rintro e s ⟨y,rfl,g⟩;rw[J];have d:=ax (cR g.1);have j:Hid (ak w s):=(HB.drew).trans (g.1.mono HB.size))|(go_at_call 54;refine(E _ j).mono ?_;rintro e aq ⟨rfl,h⟩;have K:=ax h;have aj:b<s.heap.size:=aW f j.size;have B:=au ((k.below (cR g.1)).below h);obtain⟨⟨T,U,V,W⟩,⟨X,Y,Z,aa⟩,an⟩:=B)))
 have I:=λO P Q R=>au (ww L H HB.drew (g9 _ 1) k.2.2 g h cl O P Q R);clear g d K h;go_wp2_with fail;rw[F.out];exact az (v:=.tuple #[.agg #[ab y.1.1,ab y.1.2.1,af y.1.2.2,ae y.2.1.1 y.2.2.length y.2.1.2],.bool cl]) (by simp[results,results202,go_sem,T,U,V,W]) rfl (I _ _ _ _)
theorem Nc(N:Nat)(o:Option (Tm (N+1)))(a:aw)(c:Nat)(self:Int)(pa:aw)(len:Nat)(pc:Nat)(w:ag)(h:Hid (∀w1,ak w w1->am 206 #[ae pa len pc,af p8,ab 0] w1 λe w'=>e=.returned (.bool false)/\w'=w1))(i:Hid (∀w1,ak w w1->am 206 #[ae pa len pc,af wC,ab 2] w1 λe w'=>e=.returned (.bool false)/\w'=w1))(j:Hid (∀w1,ak w w1->am 206 #[ae pa len pc,af CG,ab 1] w1 λe w'=>e=.returned (.bool false)/\w'=w1))(k:Hid (∀w1,ak w w1->am 208 #[.agg #[ae a 4 c,ab self],ae pa len pc] w1 (kh (N+1) o w1))):am 202 #[.agg #[ae a 4 c,ab self],ae pa len pc] w (kh (N+1) o w):=by
 go_enter func202,ntmps202;go_wp2_with fail;refine(h _ Ai.1).mono ?_;rintro e w1 ⟨rfl,n⟩;obtain⟨m,f,J,K⟩:=Aj n;have HB:=au m;have g:=au f;have H:w.heap.size<w1.heap.size:=by have:=f.2.2;omega
 clear n m f h;go_wp2_with fail;refine(i _ HB).mono ?_;rintro e y ⟨rfl,rfl⟩;go_wp2_with fail;refine(j _ HB).mono ?_;rintro e y ⟨rfl,rfl⟩;go_wp2_with fail;refine(k _ HB).mono ?_;rintro e L ⟨b,r,rfl,d⟩;have p:=au (g.below d.1);have q:=λs t u x=>au (wv HB (g9 _ 1) g.2.2 d s t u x);obtain⟨⟨z,A,B,C⟩,⟨D,E,F,G⟩,I⟩:=p;have l:dw (N+1) b=.agg #[ab b.1.1,ab b.1.2.1,af b.1.2.2,ae b.2.1.1 b.2.2.length b.2.1.2]:=rfl;rw[l];clear d k i j l;go_wp2_with fail;exact az (v:=.tuple #[.agg #[ab b.1.1,ab b.1.2.1,af b.1.2.2,ae b.2.1.1 b.2.2.length b.2.1.2],.bool r]) (by simp[results,results202,go_sem,z,A,B,C]) rfl (q _ _ _ _)
theorem iw(w:ag)(s0 s1 b c d e:av)(t1 t2 a:TypeId):ak w (((w.alloc (.cells #[s0,s1] t1)).alloc (.cells #[b,c,d,e] t2)).alloc (.cells #[ab 0,ab 0,af .empty,ae none 0 0] a))/\ nV (w.heap.size+1+1) (((w.alloc (.cells #[s0,s1] t1)).alloc (.cells #[b,c,d,e] t2)).alloc (.cells #[ab 0,ab 0,af .empty,ae none 0 0] a)):=by
 refine⟨(((aq _ _).alloc (ao _) _).alloc (by simp) _).alloc (by simp;omega) _,⟨?_,?_,?_,?_⟩,⟨?_,?_,?_,?_⟩,?_⟩<;>simp[go_sem]
theorem Mk{W:ag}(d:(((w.alloc (.cells #[s0,s1] t1)).alloc (.cells #[c,e,f,h] t2)).alloc (.cells #[ab 0,ab 0,af .empty,ae none 0 0] a)).alloc (.cells #[y0,y1,y2,i] b)=W):ak w W/\nV (w.heap.size+1+1) W/\ (W.cell? ⟨w.heap.size+1+1+1,0,none⟩=some y0/\W.cell? ⟨w.heap.size+1+1+1,1,none⟩=some y1/\W.cell? ⟨w.heap.size+1+1+1,2,none⟩=some y2/\W.cell? ⟨w.heap.size+1+1+1,3,none⟩=some i)/\w.heap.size+1+1+1<W.heap.size:=by
 subst d;refine⟨nB _ _ _ _ _,⟨⟨?_,?_,?_,?_⟩,⟨?_,?_,?_,?_⟩,?_⟩,⟨?_,?_,?_,?_⟩,?_⟩<;>simp[go_sem]
theorem Pp(N:Nat)(o:Option (Tm (N+1)))(a:aw)(d:Int)(e:ap)(xa:aw)(f xc:Nat)(c:Nat)(self:Int)(w:ag)(b:Hid (o=none)):am 189 #[.agg #[ae a 4 c,ab self],.agg #[ab 6,ab d,af e,ae xa f xc]] w (kh (N+1) o w):=by
 go_enter func189,ntmps189;go_wp2_with fail;rw[b.out];exact az (v:=.tuple #[.agg #[ab 0,ab 0,af .empty,ae none 0 0],.bool false]) (by simp[results,results189,go_sem];rfl) rfl (kK (iw w _ _ _ _ _ _ _ _ _).1)
theorem Pq(N:Nat)(o:Option (Tm (N+1)))(a:aw)(p:Int)(q:ap)(xa:aw)(g xc:Nat)(c:Nat)(self:Int)(w:ag)(e:Hid (∀w1,ak w w1->am 202 #[.agg #[ae a 4 c,ab self],ae xa g xc] w1 (kh (N+1) o w1))):am 189 #[.agg #[ae a 4 c,ab self],.agg #[ab 4,ab p,af q,ae xa g xc]] w (kh (N+1) o w):=by
 go_enter func189,ntmps189;go_wp2_with fail;refine(e _ (iw w _ _ _ _ _ _ _ _ _).1).mono ?_;rintro x D ⟨b,j,rfl,d⟩;have h:=au ((iw w _ _ _ _ _ _ _ _ _).2.below d.1);have i:=λk l m n=>au (wv (iw w _ _ _ _ _ _ _ _ _).1 (g9 w.heap.size 2) (iw w _ _ _ _ _ _ _ _ _).2.2.2 d k l m n);obtain⟨⟨r,s,t,u⟩,⟨y,z,A,B⟩,C⟩:=h;have f:dw (N+1) b=.agg #[ab b.1.1,ab b.1.2.1,af b.1.2.2,ae b.2.1.1 b.2.2.length b.2.1.2]:=rfl;rw[f];clear d e f;go_wp2_with fail;exact az (v:=.tuple #[.agg #[ab b.1.1,ab b.1.2.1,af b.1.2.2,ae b.2.1.1 b.2.2.length b.2.1.2],.bool j]) (by simp[results,results189,go_sem,r,s,t,u]) rfl (i _ _ _ _)
theorem OJ(N:Nat)(o:Option (Tm (N+1)))(a:aw)(b:Int)(h:Int)(i:ap)(xa:aw)(j xc:Nat)(n:Nat)(r:n<=N)(x:Tm (n+1))(c:Nat)(self:Int)(w:ag)(I:¬b=4)(J:¬b=5)(K:¬b=6)(m:Hid (aI ⟨n+1,x⟩))(f:Hid (∀w1,ak w w1->am 56 #[.agg #[ab b,ab h,af i,ae xa j xc]] w1 λe w'=>∃y:Tm (n+1),e=.returned (dw (n+1) y)/\Hid (ak w1 w'/\In w'.heap.size w' (n+1) y/\cr (λq=>w1.heap.size<=q) (n+1) y/\aB (n+1) y (n+1) x=true)))(l:Hid (o=some (aY (N+1) (n+1) x))):am 189 #[.agg #[ae a 4 c,ab self],.agg #[ab b,ab h,af i,ae xa j xc]] w (kh (N+1) o w):=by
 go_enter func189,ntmps189;go_wp2_with fail;refine(f _ (iw w _ _ _ _ _ _ _ _ _).1).mono ?_;rintro e M ⟨y,rfl,d⟩;have k:=au ((iw w _ _ _ _ _ _ _ _ _).2.below d.1);have p:=λs t u z=>au (ww r m (iw w _ _ _ _ _ _ _ _ _).1 (g9 w.heap.size 2) (iw w _ _ _ _ _ _ _ _ _).2.2.2 d (aq _ _) true s t u z);obtain⟨⟨A,B,C,D⟩,⟨E,F,G,H⟩,L⟩:=k;have g:dw (n+1) y=.agg #[ab y.1.1,ab y.1.2.1,af y.1.2.2,ae y.2.1.1 y.2.2.length y.2.1.2]:=rfl;rw[g];clear d f g;go_wp2_with fail;rw[l.out];exact az (v:=.tuple #[.agg #[ab y.1.1,ab y.1.2.1,af y.1.2.2,ae y.2.1.1 y.2.2.length y.2.1.2],.bool true]) (by simp[results,results189,go_sem,A,B,C,D]) rfl (p _ _ _ _)
theorem Pr(N:Nat)(o:Option (Tm (N+1)))(b bo:Nat)(k:Nat)(l:Int)(M:ap)(xa:aw)(Q xc:Nat)(n:Nat)(E:n<=N)(x:Tm (n+1))(c:Nat)(self:Int)(w:ag)(A:l=(k:Int))(ar:k<4)(aq:b<w.heap.size)(F:dH w b (bo+k*4) (n+1) x)(t:Hid (aI ⟨n+1,x⟩))(s:Hid (∀w1,ak w w1->am 56 #[.agg #[ab x.1.1,ab x.1.2.1,af x.1.2.2,ae x.2.1.1 x.2.2.length x.2.1.2]] w1 λe w'=>∃y:Tm (n+1),e=.returned (dw (n+1) y)/\Hid (ak w1 w'/\In w'.heap.size w' (n+1) y/\cr (λq=>w1.heap.size<=q) (n+1) y/\aB (n+1) y (n+1) x=true)))(p:Hid (∀w1,am 197 #[.agg #[ab x.1.1,ab x.1.2.1,af x.1.2.2,ae x.2.1.1 x.2.2.length x.2.1.2]] w1 λe w'=>e=.returned (.bool (!(x.1.1==6)))/\ak w1 w'))(r:Hid (o=if (!(x.1.1==6))=true then some (aY (N+1) (n+1) x)else none)):am 189 #[.agg #[ae (some ⟨b,bo,none⟩) 4 c,ab self],.agg #[ab 5,ab l,af M,ae xa Q xc]] w (kh (N+1) o w):=by
 go_enter func189,ntmps189;obtain⟨K,L,O,P⟩:=F;subst A;generalize x.2.2.length=R at*;generalize (!(x.1.1==6))=cl at*;have av:(0:Int)<=(k:Int):=by omega
 have ay:(k:Int)<4:=by omega
 have an:b<w.heap.size+1:=by omega
 have ao:b<w.heap.size+1+1:=by omega
 go_wp2_with fail;generalize i:World.alloc (World.alloc (World.alloc (World.alloc w _) _) _) _=X;obtain⟨g,h,⟨Y,Z,aa,ad⟩,B⟩:=Mk i;have HB:=au g;have f:=au h;clear i g h K L O P;have z:∀y:Tm (n+1),dw (n+1) y=.agg #[ab y.1.1,ab y.1.2.1,af y.1.2.2,ae y.2.1.1 y.2.2.length y.2.1.2]:=λ_=>rfl
 go_region_held3 (λw'=>w'.cell? ⟨w.heap.size+1+1+1,0,none⟩=some (ab x.1.1)/\w'.cell? ⟨w.heap.size+1+1+1,1,none⟩=some (ab x.1.2.1)/\w'.cell? ⟨w.heap.size+1+1+1,2,none⟩=some (af x.1.2.2)/\w'.cell? ⟨w.heap.size+1+1+1,3,none⟩=some (ae x.2.1.1 R x.2.1.2))
  (go_keep) ((first|(go_at_call 56;refine(s _ HB.drew).mono ?_;rintro e j ⟨y,rfl,a⟩;rw[z];have C:=ax (cR a.1);have W:Hid (ak w j):=(HB.drew).trans (a.1.mono HB.size);have aA:w.heap.size+1+1+1<j.heap.size:=aW B a.1.size)|(go_at_call 197;refine(p _).mono ?_;rintro e aD ⟨rfl,d⟩;have D:=ax d;have m:=au ((f.below (cR a.1)).below d);obtain⟨⟨S,T,U,V⟩,⟨ah,ai,aj,al⟩,aC⟩:=m)))
 have u:=λG H I J=>au (ww E t HB.drew (g9 w.heap.size 2) f.2.2 a d cl G H I J);clear a C D d;go_wp2_with fail;rw[r.out];exact az (v:=.tuple #[.agg #[ab y.1.1,ab y.1.2.1,af y.1.2.2,ae y.2.1.1 y.2.2.length y.2.1.2],.bool cl]) (by simp[results,results189,go_sem,S,T,U,V]) rfl (u _ _ _ _)
def wZ(m n:Nat)(self:Int)(f:Tm n->Option (Tm (m+n)))(p:List (Tm n)):Option (Tm (m+n+1)):=
 if ud n p p8 0 then some (bT 3 self (m+n))
 else if ud n p wC 2 then (p[1]?).bind λa=>(p[2]?).bind λc=>(f a).bind λa=>(f c).bind λc=>tV (m+n) a c
 else if ud n p CG 1 then (p[1]?).bind λa=>if aS n a then some (aY (m+n+1) n a)else none
 else (cQ f p).map (dl (m+n))
theorem Lm(m:Nat)(b:List (Tm m))(self:Int)(n:Nat)(x:Tm (n+1))(a:x.1.1=4):vl m b self (n+1) x=wZ m n self (λy=>vl m b self n y) x.2.2:=by simp[vl,a,wZ]
theorem Ll(m:Nat)(b:List (Tm m))(self:Int)(n:Nat)(x:Tm (n+1))(a:x.1.1=6):vl m b self (n+1) x=none:=by simp[vl,a]
theorem FL(m:Nat)(b:List (Tm m))(self:Int)(n:Nat)(x:Tm (n+1))(a:x.1.1≠4)(c:x.1.1≠5)(d:x.1.1≠6):vl m b self (n+1) x=some (aY (m+n+1) (n+1) x):=by simp[vl,a,c,d]
theorem ON(m:Nat)(b:List (Tm m))(self:Int)(n:Nat)(x:Tm (n+1))(y:Tm m)(k:Nat)(a:x.1.1=5)(c:x.1.2.1=(k:Int))(d:b[k]?=some y):vl m b self (n+1) x=if b8 ⟨m,y⟩=6 then none else some (aY (m+n+1) m y):=by
 simp[vl,a,c,d]
theorem Bl{p:List (Tm n)}(a:ud n p s k=true):p.length=1+k:=by
 by_cases b:p.length=1+k
 ·exact b
 ·rw[Fl b]at a;cases a
theorem Ka{o:Option (Tm N)}(d:∀a,o=some a->aI ⟨N,a⟩):O1 o:=by
 intro a g e;have c:=d a g;cases N with
 | zero=>exact(dq c).elim
 | succ N=>
  have b:=c (bI N a) (by simp[aC,bI]);have f:a.1.1=1:=e;simp only[cJ,bI,f,qP,aK,cY]at b;exact⟨eQ b.1.2.1,eQ b.1.2.2⟩
theorem EF(m:Nat)(b:List (Tm m))(self:Int)(O:gn m b=true)(N:1<=self/\self<=99)(n:Nat)(ih:NQ m b self n)(p:List (Tm n))(pa:aw)(pc:Nat)(a:aw)(c B:Nat)(w:ag)(L:p.length<=8)(g:fM B w n p pa)(v:∀y∈p,aI ⟨n,y⟩)(C:fM B w m b a)(f:B<=w.heap.size):am 202 #[.agg #[ae a 4 c,ab self],ae pa p.length pc] w (kh (m+n+1) (wZ m n self (λy=>vl m b self n y) p) w):=by
 have D:=λW k (Q:k<=8) h (e:ak w h)=>Dy n p pa pc B W k h (g.below (e.mono f)) L Q;have j:=D p8 0 (by omega);have o:=D wC 2 (by omega);have r:=D CG 1 (by omega);have K:∀y∈b,aI ⟨m,y⟩:=λy i=>((im O).2 y i).2.1;cases e1:ud n p p8 0
 ·rw[e1]at j;cases e2:ud n p wC 2
  ·rw[e2]at o;cases e3:ud n p CG 1
   ·rw[e3]at r;refine Nc (m+n) _ a c self pa p.length pc w j o r ?_;intro h e;have P:=Cz m b self n ih p p.length rfl pa pc a c B h L (g.below (e.mono f)) v (C.below (e.mono f)) (aD f e.size);simpa [wZ,e1,e2,e3]using P
   ·rw[e3]at r;have s:=Bl e3;rcases g with g|⟨G,po,rfl,R,g⟩
    ·rw[g]at s;simp at s
    ·obtain⟨y,i⟩:∃y,p[1]?=some y:=⟨p[1]'(by omega),aM _⟩;obtain⟨u,x⟩:=g 1 y i;have t:=v y (aN i);have z:wZ m n self (λy=>vl m b self n y) p=if aS n y=true then some (aY (m+n+1) n y)else none:=by simp[wZ,e1,e2,e3,i]
     rw[z];cases n with
     | zero=>exact u.elim
     | succ n=>
     rw[show p.length=2 by omega]at j o r ⊢;refine OP (m+(n+1)) _ a c self G po n (by omega) y (aS (n+1) y) pc w j o r (by omega) (by simpa using u) t ?_ ?_ rfl
     ·intro h e;exact ip (n+1) y B h (x.below (e.mono f)) (aD f e.size) t
     ·intro h e;exact iS (n+1) y B h (x.below (e.mono f)) (aD f e.size)
  ·rw[e2]at o;have s:=Bl e2;rcases g with g|⟨G,po,rfl,R,g⟩
   ·rw[g]at s;simp at s
   ·obtain⟨d,E⟩:∃d,p[1]?=some d:=⟨p[1]'(by omega),aM _⟩;obtain⟨y,i⟩:∃y,p[2]?=some y:=⟨p[2]'(by omega),aM _⟩;obtain⟨S,T⟩:=g 1 d E;obtain⟨u,x⟩:=g 2 y i;have M:=v d (aN E);have t:=v y (aN i);have z:wZ m n self (λy=>vl m b self n y) p=wW (vl m b self n d) (vl m b self n y):=by simp[wZ,e1,e2,E,i,wW]
    rw[z];have U:=Ka λJ F=>wu m b self N K n d M J F;have V:=Ka λJ F=>wu m b self N K n y t J F;cases n with
    | zero=>exact u.elim
    | succ n=>
    rw[show p.length=3 by omega]at j o ⊢;refine OO (m+(n+1)) _ a c self G po d.1.1 d.1.2.1 d.1.2.2 d.2.1.1 d.2.2.length d.2.1.2 y.1.1 y.1.2.1 y.1.2.2 y.2.1.1 y.2.2.length y.2.1.2 pc w j o (by omega) (by simpa [dH]using S) (by simpa [dH]using u) ?_;intro h e;refine KY (m+(n+1)) _ _ U V a c self d.1.1 d.1.2.1 d.1.2.2 d.2.1.1 d.2.2.length d.2.1.2 y.1.1 y.1.2.1 y.1.2.2 y.2.1.1 y.2.2.length y.2.1.2 h ?_ ?_
    ·intro H q;refine tr (m+n) _ a c self d.1.1 d.1.2.1 d.1.2.2 d.2.1.1 d.2.2.length d.2.1.2 H ?_;intro I A;have l:=(e.trans ((q.trans (A.mono q.size)).mono e.size));exact ih d a c B I (T.below (l.mono f)) M (C.below (l.mono f)) (aD f l.size)
    ·intro H q;refine tr (m+n) _ a c self y.1.1 y.1.2.1 y.1.2.2 y.2.1.1 y.2.2.length y.2.1.2 H ?_;intro I A;have l:=(e.trans ((q.trans (A.mono q.size)).mono e.size));exact ih y a c B I (x.below (l.mono f)) t (C.below (l.mono f)) (aD f l.size)
 ·rw[e1]at j;exact Nf (m+n) _ a c self ⟨by omega,by omega⟩ pa p.length pc w j (by simp[Hid,wZ,e1])
theorem II(m:Nat)(b:List (Tm m))(self:Int)(z:gn m b=true)(J:1<=self/\self<=99)(n:Nat):NQ m b self n:=by
 induction n with
 | zero=>intro a j c q p v;exact v.elim
 | succ n ih=>
  intro a j c q p v u h g;obtain⟨y,H⟩:=im z;have t:=u (bI n a) (by simp[aC,bI]);have I:a.2.2.length<=8:=mB (bI n a) t;by_cases s:a.1.1=6
  ·have f:=Pp (m+n) (vl m b self (n+1) a) j a.1.2.1 a.1.2.2 a.2.1.1 a.2.2.length a.2.1.2 c self p (Ll m b self n a s);rw[<-s]at f;exact f
  ·by_cases l:a.1.1=5
   ·have O:0<=a.1.2.1/\a.1.2.1<=3:=by
      have D:¬(5:Int)=1:=by decide
      have E:¬(5:Int)=2:=by decide
      have F:¬(5:Int)=3:=by decide
      have G:¬(5:Int)=4:=by decide
      simp only[cJ,bI,l,qP,aK,cY,D,E,F,G,if_false]at t;exact⟨eQ t.1.2.1,eQ t.1.2.2⟩
    obtain⟨k,A⟩:∃k:Nat,a.1.2.1=(k:Int):=⟨a.1.2.1.toNat,by omega⟩;obtain⟨d,o⟩:∃d,b[k]?=some d:=⟨b[k]'(by omega),aM _⟩;have w:=(H d (aN o)).2.1;have C:=ON m b self n a d k l A o;have M:=h;rcases h with h|⟨B,bo,rfl,N,h⟩
    ·rw[h]at y;simp at y
    ·obtain⟨K,L⟩:=h k d o;cases m with
     | zero=>exact(dq w).elim
     | succ m=>
     have f:=Pr (m+1+n) (vl (m+1) b self (n+1) a) B bo k a.1.2.1 a.1.2.2 a.2.1.1 a.2.2.length a.2.1.2 m (by omega) d c self p A (by omega) (by omega) K w
      (λi e=>ip (m+1) d q i (L.below (e.mono g)) (aD g e.size) w)
      (λi=>jA d.1.1 d.1.2.1 d.1.2.2 d.2.1.1 d.2.2.length d.2.1.2 i)
      (by
       show vl (m+1) b self (n+1) a=_;rw[C];by_cases x:d.1.1=6
       ·simp[b8,x]
       ·simp[b8,x])
     rw[<-l]at f;exact f
   ·by_cases r:a.1.1=4
    ·have f:=Pq (m+n) (vl m b self (n+1) a) j a.1.2.1 a.1.2.2 a.2.1.1 a.2.2.length a.2.1.2 c self p (by
       intro i e;rw[Lm m b self n a r]
       exact EF m b self z J n ih a.2.2 a.2.1.1 a.2.1.2 j c q i I (fM.below (e.mono g) v.2) (λd o=>bf n a d u o) (h.below (e.mono g)) (aD g e.size))
     rw[<-r]at f;exact f
    ·exact OJ (m+n) (vl m b self (n+1) a) j a.1.1 a.1.2.1 a.1.2.2 a.2.1.1 a.2.2.length a.2.1.2 n (by omega) a c self p r l s u
       (λi e=>ip (n+1) a q i (v.below (e.mono g)) (aD g e.size) u) (FL m b self n a r l s)
end Go.Proofs.YtmmahddlcldmiaaGreat
