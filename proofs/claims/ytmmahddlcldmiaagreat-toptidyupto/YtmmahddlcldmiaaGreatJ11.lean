/- Proved here: plain facts and contracts. No condition but what each names. -/
import Derived.Test.YtmmahddlcldmiaaGreatJ09
import Derived.Test.YtmmahddlcldmiaaGreatJ10
namespace Go.Proofs.YtmmahddlcldmiaaGreat
open Go.RowKit Go.Maps Go.Shelf Go.Lib Go.Sort Go.Proofs.Tryz
open Go.RowKit Go.Maps
open Go.RowKit
set_option maxRecDepth 100000
set_option maxHeartbeats 1000000
def sr(x:Int×Int):List Value:=[ab x.1,ab x.2]
def gt(a:List wE):List (Int×Int):=a.map (·.1)
theorem vD:(a:List wE)->(t:Nat)->t<a.length*2->(fk a)[t]?=some ((sr (gt a).toArray[t / 2]!)[t % 2]!)
 | [],t,h=>by simp at h
 | k::a,0,_=>rfl
 | k::a,1,_=>rfl
 | k::a,t+2,h=>by
  have ih:=vD a t (by simp at h;omega);have e:fk (k::a)=[ab k.1.1,ab k.1.2]++fk a:=rfl;rw[e,ed (by simp)];have b:t+2- [Value.int .i64 k.1.1,Value.int .i64 k.1.2].length=t:=by simp
  rw[b,ih,show (t+2) / 2=t / 2+1 by omega,show (t+2) % 2=t % 2 by omega];have c:(gt (k::a)).toArray[t / 2+1]! =(gt a).toArray[t / 2]! :=by
   simp[gt]
  rw[c]
theorem JK{base g c:Nat}{a:List wE}{w:World}(f:w.ownsRow base 44 2 (ae (some ⟨g,0,none⟩) a.length c) a.length (fk a)):HoldsK sr 2 w g 0 (gt a).toArray:=by
 intro e i;have l:(flatK sr 2 (gt a).toArray).size=a.length*2:=by simp[flatK,gt]
 rw[l]at i;refine⟨?_,?_⟩
 ·have h:=f.cells (g:=g) rfl e _ (vD a e i);rw[dZ]at h;rw[h];have j:=get_flatK sr 2 (gt a).toArray e (by simp[gt];omega);rw[<-j];rfl
 ·rcases f.2 with⟨d,_⟩|⟨n,cap,m,d,_,k,_⟩
  ·cases d
  ·injection d with b _ _;injection b with b;injection b with b _;subst b;simp[World.frozen?,k]
def yC(v:Value)(l:List (Int×Int))(w:World):Prop:=
 ∃d c,v=ae d l.length c/\(l=[]\/∃a,d=some ⟨a,0,none⟩/\a<w.heap.size/\∀b k,l[b]?=some k->w.cell? ⟨a,b*2,none⟩=some (ab k.1)/\w.cell? ⟨a,b*2+1,none⟩=some (ab k.2))
theorem yC.later{v:Value}{l:List (Int×Int)}{w w':World}(a:yC v l w)(f:aj w w'):yC v l w':=by
 obtain⟨i,c,d,a⟩:=a;refine⟨i,c,d,?_⟩;rcases a with a|⟨e,d,g,a⟩
 ·exact ah a
 ·exact ai ⟨e,d,aR g f.size,λb k h=>⟨(f.cell (p:=⟨e,b*2,none⟩) g).trans (a b k h).1,(f.cell (p:=⟨e,b*2+1,none⟩) g).trans (a b k h).2⟩⟩
def Bq(x y:Int×Int):Prop:=x.1<y.1\/x.1=y.1/\x.2<y.2
theorem vn(x y:Int×Int):ltOf js x y=true ↔ Bq x y:=by
 unfold ltOf Bq;rw[decide_eq_true_iff,LW]
theorem mx(x y:Int×Int):ltOf js x y=false ↔¬Bq x y:=by
 rw[<-vn];cases ltOf js x y<;>simp
theorem PV:SWO (ltOf js) where
 irrefl x:=by rw[mx];unfold Bq;omega
 trans x y z h1 h2:=by rw[vn]at*;unfold Bq at*;omega
 ntrans x y z h1 h2:=by rw[mx]at*;unfold Bq at*;omega
def Nm{N:Nat}(f:Int×Int->List (Tm N))(l:List (Int×Int)):Prop:=l.Pairwise Bq/\∀k,k∈l ↔ I2 k/\f k≠[]
theorem rN{N M:Nat}{f:Int×Int->List (Tm N)}{g:Int×Int->List (Tm M)}:(l r:List (Int×Int))->l.Pairwise Bq->r.Pairwise Bq->(∀k,k∈l ↔ k∈r)->l=r
 | [],[],_,_,_=>rfl
 | [],b::r,_,_,h=>by have:=(h b).2 (by simp);cases this
 | a::l,[],_,_,h=>by have:=(h a).1 (by simp);cases this
 | a::l,b::r,hl,hr,h=>by
  obtain⟨m,q⟩:=List.pairwise_cons.1 hl;obtain⟨n,s⟩:=List.pairwise_cons.1 hr;have p:a=b:=by
   have i:=(h a).1 (by simp);have j:=(h b).2 (by simp);simp only[cm]at i j;rcases i with c|i
   ·exact c
   ·rcases j with c|j
    ·exact c.symm
    ·have d:=m b j;have o:=n a i;unfold Bq at d o;omega
  subst p;rw[rN (f:=f) (g:=g) l r q s λk=>?_];constructor
  ·intro e;have:=(h k).1 (by simp[e]);simp only[cm]at this;rcases this with c|c
   ·subst c;have d:=m k e;unfold Bq at d;omega
   ·exact c
  ·intro e;have:=(h k).2 (by simp[e]);simp only[cm]at this;rcases this with c|c
   ·subst c;have d:=n k e;unfold Bq at d;omega
   ·exact c
theorem Cf{N:Nat}{f:Int×Int->List (Tm N)}{e:List wE}(p:e.Pairwise (λa b=>a≠b))(m:∀k,(∃x∈e,x.1=k) ↔ I2 k/\f k≠[]):Nm f ((gt e).mergeSort λx y=> !(ltOf js) y x):=by
 have s:∀a b c:Int×Int,(!(ltOf js) b a)=true->(!(ltOf js) c b)=true->(!(ltOf js) c a)=true:=λa b c i h=>by
  simp only[kG,mx]at*;unfold Bq at*;omega
 have r:∀a b:Int×Int,((!(ltOf js) b a) || (!(ltOf js) a b))=true:=λa b=>by
  cases d:ltOf js b a
  ·simp
  ·have i:=(vn b a).1 d;have h:ltOf js a b=false:=(mx a b).2 (by unfold Bq at*;omega);simp[h]
 have q:=List.pairwise_mergeSort s r (gt e);have j:=List.mergeSort_perm (gt e) (λx y=> !(ltOf js) y x);have n:(gt e).Pairwise (λa b=>a≠b):=List.pairwise_map.2 (p.imp λd g=>d (Subtype.ext g));have o:=(j.symm.pairwise_iff (λ{a b}(d:a≠b)=>d.symm)).1 n;refine⟨?_,λk=>?_⟩
 ·have l:=q.and o;refine l.imp λ{a b} d=>?_;obtain⟨i,h⟩:=d;simp only[kG,mx]at i;have:¬(a.1=b.1/\a.2=b.2):=λg=>h (fw g.1 g.2);unfold Bq at*;omega
 ·rw[j.mem_iff,<-m k];simp[gt]
theorem Ef(w:World)(g n:Nat)(d:Array (Int×Int))(os:Array Obj)(b:Nat)(e:b<w.heap.size)(c:b≠g):(sortWorldK sr 2 w g 0 n d os).heap[b]?=w.heap[b]? :=by
 unfold sortWorldK;have f:(putRowK sr 2 (Sort.ahead w n) g 0 d).heap.size=w.heap.size:=by simp[putRowK,putRow,mapBlock,Sort.ahead]
 rw[heap_grow_old _ _ (by omega)];have:g≠b:=λa=>c a.symm;simp[putRowK,putRow,mapBlock,Sort.ahead,bJ,this]
theorem vP(w:World)(g n base:Nat)(d:Array (Int×Int))(os:Array Obj)(c:base<=g)(e:base<=w.heap.size):Below base w (sortWorldK sr 2 w g 0 n d os):=by
 refine⟨rfl,rfl,rfl,?_,λb a=>Ef w g n d os b (by omega) (by omega)⟩;simp[sortWorldK,grow,putRowK,putRow,mapBlock,Sort.ahead]
theorem LH(w:World):(isAgg 44).run Tryz.prog w=.ok true w:=by kernel_rfl
theorem KK(w:World):(Go.sizeOf 44).run Tryz.prog w=.ok 2 w:=by kernel_rfl
theorem Hv(base:Nat)(a:List wE)(v:Value)(w:World)(G:a.length<=1000000)(m:base<=w.heap.size)(t:w.ownsRow base 44 2 v a.length (fk a)):ak 94 #[v,.func (.func 62) #[] #[]] w λe w'=>e=.returned (.tuple #[])/\yC v ((gt a).mergeSort λx y=> !(ltOf js) y x) w'/\Below base w w':=by
 have s:((gt a).mergeSort λx y=> !(ltOf js) y x).length=a.length:=by rw[List.length_mergeSort];simp[gt]
 rcases t.2 with⟨rfl,e⟩|⟨b,cap,E,rfl,p,D,H⟩
 ·have f:a=[]:=bE e;subst f;refine(vQ _ w).mono ?_;rintro e w' ⟨rfl,rfl⟩;exact⟨rfl,⟨none,0,by simp[gt],ah (by simp[gt])⟩,ao _ _⟩
 ·have C:=(aF.1 D).1;have h:(gt a).toArray.size=a.length:=by simp[gt]
  have l:=JK t
  have o:=Tryz.slices_SortFunc_total 2 LH KK sr (λ_=>rfl) (λx v u=>by simp[sr]at u;rcases u with rfl|rfl<;>rfl) js PV 62 #[] b 0 cap (gt a).toArray w (enters_of func62 (by kernel_rfl) rfl) (λJ os F _ x y=>ED x y _) l C (by rw[h];omega) (λx y d j=>by
   rw[mx]at d j;unfold Bq at d j
   exact fw (by omega) (by omega))
  rw[h]at o;refine o.mono ?_;rintro e w' ⟨rfl,n,os,rfl⟩;have B:((gt a).mergeSort λx y=> !(ltOf js) y x).toArray.size=(gt a).toArray.size:=by
   rw[dO,s,h]
  have I:(putRowK sr 2 (Sort.ahead w n) b 0 ((gt a).toArray.toList.mergeSort λx y=> !(ltOf js) y x).toArray).heap.size=w.heap.size:=by simp[putRowK,putRow,mapBlock,Sort.ahead]
  have q:=holdsK_grow (enc:=sr) (k:=2) (putRowK sr 2 (Sort.ahead w n) b 0 ((gt a).toArray.toList.mergeSort λx y=> !(ltOf js) y x).toArray) os b 0 _ (by omega) (holdsK_putRowK (enc:=sr) (k:=2) (Sort.ahead w n) b 0 (gt a).toArray _ l B);refine⟨rfl,⟨some ⟨b,0,none⟩,cap,by rw[s],ai ⟨b,rfl,?_,λi k f=>?_⟩⟩,vP w b n base _ os p m⟩
  ·have:=(vP w b n base ((gt a).toArray.toList.mergeSort λx y=> !(ltOf js) y x).toArray os p m).size;omega
  ·have r:=(aS.1 f).1;have g:=(q.cell (i:=i) (c:=0) (by simpa using r) (by omega)).1;have d:=(q.cell (i:=i) (c:=1) (by simpa using r) (by omega)).1;have z:((gt a).toArray.toList.mergeSort λx y=> !(ltOf js) y x).toArray[i]! =k:=by
    have A:((gt a).mergeSort λx y=> !(ltOf js) y x)[i]?=some k:=f;simp only[List.getElem!_toArray];rw[List.getElem!_eq_getElem?_getD,A];rfl
   rw[z]at g d;simp only[cX,gC]at g d;exact⟨g,d⟩
theorem JZ:(l r:List Lit)->l.Pairwise (λa b=>a≠b)->(∀x∈l,x∈r)->l.length<=r.length:=by
 letI:DecidableEq Lit:=λa b=>Classical.propDecidable (a=b);intro l
 induction l with
 | nil=>exact λ_ _ _=>aH _
 | cons a l ih=>
  intro r i d;obtain⟨g,h⟩:=List.pairwise_cons.1 i;have c:=d a (by simp);have j:=ih (r.erase a) h λx e=>(List.mem_erase_of_ne (λf=>g x e f.symm)).2 (d x (by simp[e]));rw[List.length_erase_of_mem c]at j;have:=List.length_pos_of_mem c;simp only[bi];omega
theorem Eg(c b t:Nat)(D:DataW Value)(w:World)(E:c<w.heap.size)(q:w.cell? ⟨c,0,none⟩=some (.map (some b)))(h:w.ownsMap Tryz.prog 44 mF b t D)(d:Maps.size D<=1000000):ak 60 #[.func (.func 95) #[] #[aC c],.func (.func 62) #[] #[]] w λe w'=>∃v a,e=.returned v/\Hid (ng D a/\yC v ((gt a).mergeSort λx y=> !(ltOf js) y x) w'/\aj w w'/\a.length<=1000000):=by
 have o:∀a:List wE,ng D a->a.length<=1000000:=λa m=>by
  obtain⟨es,rfl,N,M⟩:=h.entries dP;have C:= @JZ (a.map λk=>kl k.1) (es.map (·.1)) (List.pairwise_map.2 (m.1.imp λ{B b} F e=>F (Subtype.ext (lW B.2 b.2 e)))) λx J=>by
   obtain⟨k,G,rfl⟩:=b9.1 J;have p:=(m.2 _).2 ⟨k,G,rfl⟩;rw[has_eq]at p;obtain⟨K,H,e⟩:=List.any_eq_true.1 p;exact b9.2 ⟨K,H,WideAt.sameKey_eq e⟩
  simp[Maps.size]at d;simp at C;omega
 have i:Hid (ak 137 #[ae none 0 0,.func (.func 95) #[] #[aC c]] w λe w'=>∃(v:Value)(a:List wE),e=.returned v/\ng D a/\w'.ownsRow w.heap.size 44 2 v a.length (fk a)/\aj w w'):=
  kR.1 (FO Fence.wide 5 trivial rfl (by omega) 95 #[aC c] trivial (enters_of func95 (by kernel_rfl) rfl) (ng D) (Maps.size D) d w (Dv Fence.wide 4 trivial rfl (by omega) c b t D w E q h))
 have z:Hid (ak 93 #[.func (.func 95) #[] #[aC c]] w λe w'=>∃(v:Value)(a:List wE),e=.returned v/\ng D a/\w'.ownsRow w.heap.size 44 2 v a.length (fk a)/\aj w w'):=by
  unfold Hid;go_enter func93,ntmps93;go_wp2_with fail;refine i.mono ?_;rintro e w' ⟨v,a,rfl,I⟩;go_wp2_with fail
  go_ret
  exact⟨v,a,rfl,I⟩
 clear i q h d;go_enter func60,ntmps60;go_wp2_with fail;refine z.mono ?_;rintro e L ⟨v,a,rfl,f,s,g⟩;have j:=ap f;have u:=ap g;have l:=ap (Hv w.heap.size a v L (o a f) g.size s);clear f s g;go_wp2_with fail;refine l.mono ?_;rintro e O ⟨rfl,r,n⟩;have A:=ap (⟨j,r,u.trans n,o a j⟩:_/\_/\_/\_);clear r n l;go_wp2_with fail
 go_ret
 exact⟨v,a,rfl,A⟩
theorem GD(l a:Nat)(W:World)(g:W.cell? ⟨a,0,none⟩=some (.map none)):ak 95 #[.func (.yield l) #[] #[],aC a] W λe b=>(∃v,e=.returned v)/\aj W b:=by
 have d:=λc=>run_range_nilMap (P:=Tryz.prog) c 51 44 29 underlying51;have f:=λty=>run_next_nilMap (P:=Tryz.prog) W ty 0 0 #[];go_enter func95,ntmps95;go_wp2_with fail;refine kT 1 ?_;rw[iD];go_wp2_with fail;exact dh (v:=.tuple #[]) (by simp[results]) rfl ⟨⟨_,rfl⟩,(ao _ _).alloc (am _) _⟩
theorem Lh{base n N:Nat}{u:BL}{i:Option Nat}{f:Int×Int->List (Tm N)}{sl:Int×Int->Value}{w:World}(c:g9 base u i n N f sl w)(P:n<=1000000):ak 32 #[.pointer (some ⟨u.b,u.o,none⟩)] w λe w'=>∃v l,e=.returned v/\Hid (Nm f l/\yC v l w'/\aj w w'/\l.length<=1000000):=by
 have O:=c.cell.1;have C:Hid ((i=none/\f=λ_=> [])\/∃h d,i=some h/\w.ownsMap Tryz.prog 44 mF h n d/\∀a,has d a=true ↔∃k,I2 k/\a=kl k/\f k≠[]):=by
  rcases c.2.2 with⟨e,F,_⟩|⟨h,e,K⟩
  ·exact ah ⟨e,F⟩
  ·obtain⟨d,G,_,H⟩:=K.map;exact ai ⟨h,d,e,G,H⟩
 clear c;go_enter func32,ntmps32;go_wp2_with fail;refine(JQ i w).mono ?_;rintro e j ⟨rfl,q⟩;have m:Hid (aj w j):=by
  rw[q];exact(ao _ _).alloc (am _) _
 have p:Hid (j.heap[w.heap.size]?=some (.cells #[.map i] 51)):=by
  rw[q];exact aA _ _
 have B:Hid (w.grownBy j none):=by
  rw[q];exact cR w _ none
 clear q;go_wp2_with fail;rcases C with⟨rfl,rfl⟩|⟨h,d,rfl,s,y⟩
 ·refine(Cg 95 #[aC w.heap.size] (enters_of func95 (by kernel_rfl) rfl) _ j (λl E I=>?_)).mono ?_
  ·exact GD l w.heap.size E (ag ((I.block w.heap.size (aF.1 p).1).trans p) 0)
  ·rintro e M ⟨rfl,J⟩;go_wp2_with fail
   go_ret
   exact⟨_,[],rfl,⟨List.Pairwise.nil,λk=>⟨λc=>(by cases c),λc=>absurd rfl c.2⟩⟩,⟨none,0,rfl,ah rfl⟩,m.out.trans (J.mono m.out.size),aH _⟩
 ·have x:=ap y;have L:=s.size_le;have D:=ap (Eg w.heap.size h n d j (aF.1 p).1 (ag p 0) (s.kept B (by simp)) (by omega));clear s y L;refine D.mono ?_;rintro e M ⟨v,R,rfl,g⟩;go_wp2_with fail
  go_ret
  refine⟨v,_,rfl,Cf g.1.1 (λk=>?_),g.2.1,m.trans (g.2.2.1.mono m.size),by simpa [gt]using g.out.2.2.2⟩;constructor
  ·rintro ⟨a,t,rfl⟩;obtain⟨Q,A,e,r⟩:=(x _).1 ((g.1.2 _).2 ⟨a,t,rfl⟩);rw[lW a.2 A e];exact⟨A,r⟩
  ·rintro ⟨z,r⟩;obtain⟨a,t,e⟩:=(g.1.2 _).1 ((x _).2 ⟨k,z,rfl,r⟩);exact⟨a,t,(lW z a.2 e).symm⟩
theorem MG(a b:Int)(w:World):(Op.equalIn 10000 44 (.agg #[ab a,ab b]) (.agg #[ab a,ab b])).run Tryz.prog w=.ok true w:=by
 have d:=underlying3;have c:∀w,(isAgg 3).run Tryz.prog w=.ok false w:=λw=>by kernel_rfl
 have e:∀w,(Go.sizeOf 3).run Tryz.prog w=.ok 1 w:=λw=>by kernel_rfl
 rw[show (10000:Nat)=9999+1 from rfl,Op.equalIn];simp only[kQ,cq underlying44,kP];simp only[Std.Legacy.Range.forIn_eq_forIn_range',Std.Legacy.Range.size,Nat.sub_zero,eJ,Nat.div_one,List.range'_succ,List.range'_zero,List.forIn_cons,List.forIn_nil]
 go_simp
theorem C9(g n:Option Addr)(c d:Nat)(len:Nat)(w:World)(x:len<=1000000)(r:Hid (∀i,i<len->∃b f h j,g=some ⟨b,0,none⟩/\n=some ⟨f,0,none⟩/\(w.cell? ⟨b,i*2,none⟩=some (ab h)/\w.cell? ⟨b,i*2+1,none⟩=some (ab j))/\(w.cell? ⟨f,i*2,none⟩=some (ab h)/\w.cell? ⟨f,i*2+1,none⟩=some (ab j)))):ak 13 #[ae g len c,ae n len d] w λe w'=>e=.returned (.bool true)/\aj w w':=by
 go_enter func13,ntmps13;go_wp2_with fail;go_loopw [13] (λi wr=>∃a:Nat,a<=len/\i=ab a/\Hid (aj w wr)) (λi _=>len-(intOf i).toNat)
 case atStart=>exact⟨0,aH _,rfl,ao _ _⟩
 case round=>
  obtain⟨a,v,rfl,HB⟩:=hrel;by_cases t:a<len
  ·obtain⟨b,f,h,j,rfl,rfl,⟨m,q⟩,y0,y1⟩:=r a t;have o:=fx w ⟨b,a*2,none⟩ m;have p:=fx w ⟨f,a*2,none⟩ y0;have k:=aq HB;replace m:=(k _ _ o).trans m;replace q:=(k _ _ o).trans q;replace y0:=(k _ _ p).trans y0;replace y1:=(k _ _ p).trans y1;clear k;have y:(0:Int)<=(a:Int):=by omega
   have z:(a:Int)<(len:Int):=by omega
   have s:Hid (aj w wr.drew):=HB.drew;have u:=MG h j;go_wp2_with fail;go_region_held3 (λl=>(l.cell? ⟨b,a*2,none⟩=some (ab h)/\l.cell? ⟨b,a*2+1,none⟩=some (ab j))/\(l.cell? ⟨f,a*2,none⟩=some (ab h)/\l.cell? ⟨f,a*2+1,none⟩=some (ab j))) (go_keep) (fail);go_wp2_with fail;go_roundw
   case rel=>exact⟨a+1,by omega,by go_num,s⟩
   case measure=>simp[intOf];omega
  ·obtain rfl:a=len:=by omega
   go_wp2_with fail
   go_ret
   exact⟨rfl,HB⟩
theorem Gh{v u:Value}{l:List (Int×Int)}{w:World}(d:yC v l w)(f:yC u l w)(n:l.length<=1000000):ak 13 #[v,u] w λe w'=>e=.returned (.bool true)/\aj w w':=by
 obtain⟨i,c,rfl,d⟩:=d;obtain⟨b,j,rfl,f⟩:=f;refine C9 i b c j l.length w n λg a=>?_;rcases d with d|⟨k,rfl,_,d⟩
 ·rw[d]at a;simp at a
 ·rcases f with f|⟨m,rfl,_,f⟩
  ·rw[f]at a;simp at a
  ·have h:l[g]?=some (l[g]'a):=aI a;exact⟨k,m,(l[g]'a).1,(l[g]'a).2,rfl,rfl,d g _ h,f g _ h⟩
def pW:ByteArray:=⟨#[115,101,108,102]⟩
def wk:ByteArray:=⟨#[97,100,100]⟩
def CA:ByteArray:=⟨#[112,117,116]⟩
def pI(N:Nat)(x:Tm N):Int:=(gj N x).1.2.1
def tZ(n:Nat)(p:List (Tm n))(s:ByteArray)(k:Nat):Bool:=
 decide (p.length=1+k) && match p[0]? with
  | some a=>bU ⟨n,a⟩==2 && (gj n a).1.2.2.toList==s.toList
  | none=>false
def cJ{c β:Type}(f:c->Option β):List c->Option (List β)
 | []=>some []
 | a::p=>(f a).bind λb=>(cJ f p).map λl=>b::l
def bO(k u:Int)(N:Nat):Tm (N+1):=((k,u,.empty),(none,0),[])
def zU(N:Nat)(a c:Tm N):Bool:=bU ⟨N,a⟩==1 && bU ⟨N,c⟩==1 && qK (pI N a+pI N c) (-1099511627776) 1099511627776
def tQ(N:Nat)(a c:Tm N):Option (Tm (N+1)):=if zU N a c then some (bO 1 (pI N a+pI N c) N)else none
def df(N:Nat)(l:List (Tm N)):Tm (N+1):=((4,0,.empty),(none,0),l)
def vl(m:Nat)(b:List (Tm m))(self:Int):(n:Nat)->Tm n->Option (Tm (m+n))
 | 0,_=>none
 | n+1,x=>
  if x.1.1=5 then (b[x.1.2.1.toNat]?).bind λy=>if bU ⟨m,y⟩=6 then none else some (aT (m+n+1) m y)
  else if x.1.1=6 then none
  else if x.1.1=4 then
   if tZ n x.2.2 pW 0 then some (bO 3 self (m+n))
   else if tZ n x.2.2 wk 2 then
    (x.2.2[1]?).bind λa=>(x.2.2[2]?).bind λc=>(vl m b self n a).bind λa=>(vl m b self n c).bind λc=>tQ (m+n) a c
   else if tZ n x.2.2 CA 1 then
    (x.2.2[1]?).bind λa=>if aL n a then some (aT (m+n+1) n a)else none
   else (cJ (λy=>vl m b self n y) x.2.2).map (df (m+n))
  else some (aT (m+n+1) (n+1) x)
theorem qT{e β:Type}(f:e->Option β):(p:List e)->(l:List β)->cJ f p=some l->l.length=p.length/\∀(i:Nat)(a:e)(y:β),p[i]?=some a->l[i]?=some y->f a=some y
 | [],l,b=>by simp[cJ]at b;subst b;exact⟨rfl,λi a y c=>by simp at c⟩
 | a::p,l,b=>by
  simp only[cJ]at b;obtain⟨y,m,b⟩:=bu.1 b;obtain⟨r,k,rfl⟩:=co.1 b;obtain⟨h,j⟩:=qT f p r k;refine⟨by simp[h],λi g n c d=>?_⟩;cases i with
  | zero=>
   simp at c d;subst c d;exact m
  | succ i=>exact j i g n (by simpa using c) (by simpa using d)
theorem mf{c β:Type}(f:c->Option β):(p:List c)->(i:Nat)->(a:c)->p[i]?=some a->f a=none->cJ f p=none
 | [],i,a,h,_=>by simp at h
 | b::p,0,a,h,k=>by
  simp at h;subst h;simp[cJ,k]
 | b::p,i+1,a,h,k=>by
  simp only[cJ];rw[mf f p i a (by simpa using h) k];simp
theorem wZ{b β:Type}(f:b->Option β)(g:b->β):(p:List b)->(∀a∈p,f a=some (g a))->cJ f p=some (p.map g)
 | [],_=>rfl
 | a::p,h=>by simp[cJ,h a (by simp),wZ f g p λx c=>h x (bM _ c)]
theorem ze{b β c:Type}(f:b->List c)(g:β->List c)(K:Nat):(p:List b)->(l:List β)->l.length=p.length->(∀(i:Nat)(a:b)(y:β),p[i]?=some a->l[i]?=some y->(g y).length<=K*(f a).length)->(l.flatMap g).length<=K*(p.flatMap f).length
 | [],[],_,_=>by simp
 | [],_::_,h,_=>by simp at h
 | _::_,[],h,_=>by simp at h
 | a::p,y::l,h,k=>by
  have j:=k 0 a y rfl rfl;have m:=ze f g K p l (by simpa using h) λi a y d e=>k (i+1) a y (by simpa using d) (by simpa using e);simp only[bF,bm];rw[Nat.mul_add];omega
theorem oT:(N n:Nat)->n<=N->(x:Tm n)->(ay N (aT N n x)).length<=(ay n x).length
 | 0,0,_,_=>am _
 | _+1,0,_,_=>by simp[aT,ay]
 | 0,n+1,h,_=>by omega
 | N+1,n+1,h,x=>by
  have:=ze (λy=>ay n y) (λy=>ay N y) 1 x.2.2 (x.2.2.map λy=>aT N n y) (by simp) λi a y c b=>by
   simp[c]at b;subst b;rw[Nat.one_mul];exact oT N n (by omega) a
  simp only[ay,aT,bi];omega
theorem vh{a K:Nat}(b:1<=K):a<=K*a:=Nat.le_mul_of_pos_left a b
theorem Bt{d e:Type}(f:d->List e)(p:List d)(a:d)(c:a∈p):(f a).length<=(p.flatMap f).length:=by
 induction p with
 | nil=>cases c
 | cons b p ih=>
  simp only[bF,bm];rcases cm.1 c with rfl|c
  ·omega
  ·have:=ih c;omega
theorem Cy(m:Nat)(b:List (Tm m))(self:Int)(K:Nat)(f:1<=K)(q:∀y∈b,(ay m y).length<=K):(n:Nat)->(x:Tm n)->(o:Tm (m+n))->vl m b self n x=some o->(ay (m+n) o).length<=K*(ay n x).length
 | 0,_,_,d=>by simp[vl]at d
 | n+1,x,o,d=>by
  have one:∀k u,(ay (m+n+1) (bO k u (m+n))).length<=K*(ay (n+1) x).length:=λk u=>by
   have:1*1<=K*(ay (n+1) x).length:=Nat.mul_le_mul f (by simp[ay]);simpa [ay,bO]using this
  have up:∀(y:Tm n),y∈x.2.2->K*(ay n y).length<=K*(ay (n+1) x).length:=λy j=>by
   have:=Bt (λy=>ay n y) x.2.2 y j;exact Nat.mul_le_mul_left K (by simp only[ay,bi]at this ⊢;omega)
  simp only[vl]at d;split at d
  ·obtain⟨y,j,d⟩:=bu.1 d;split at d
   ·cases d
   ·obtain rfl:=aw d;have e:=oT (m+n+1) m (by omega) y;have g:=q y (aJ j);have h:K*1<=K*(ay (n+1) x).length:=Nat.mul_le_mul_left K (by simp[ay]);show (ay (m+n+1) _).length<=_;omega
  ·split at d
   ·cases d
   ·split at d
    ·split at d
     ·obtain rfl:=aw d;exact one _ _
     ·split at d
      ·obtain⟨a,p,d⟩:=bu.1 d;obtain⟨c,A,d⟩:=bu.1 d;obtain⟨v,z,d⟩:=bu.1 d;obtain⟨w,B,d⟩:=bu.1 d;unfold tQ at d;split at d
       ·obtain rfl:=aw d;exact one _ _
       ·cases d
      ·split at d
       ·obtain⟨a,p,d⟩:=bu.1 d;split at d
        ·obtain rfl:=aw d;have e:=oT (m+n+1) n (by omega) a;have g:=up a (aJ p);have h:=vh (a:=(ay n a).length) f;show (ay (m+n+1) _).length<=_;omega
        ·cases d
       ·obtain⟨l,t,rfl⟩:=co.1 d;obtain⟨e,g⟩:=qT _ _ _ t;have h:=ze (λy=>ay n y) (λy=>ay (m+n) y) K x.2.2 l e λi a y r s=>Cy m b self K f q n a y (g i a y r s);show (ay (m+n+1) (df (m+n) l)).length<=_;simp only[ay,df,bi];rw[Nat.mul_add];omega
    ·obtain rfl:=aw d;have e:=oT (m+n+1) (n+1) (by omega) x;have h:=vh (a:=(ay (n+1) x).length) f;show (ay (m+n+1) _).length<=_;omega
theorem kD:(n:Nat)->(x:Tm n)->(m:Nat)->(y:Tm m)->ax n x m y=true->(ay n x).length=(ay m y).length
 | 0,_,_,_,h=>by simp[ax]at h
 | _+1,_,0,_,h=>by simp[ax]at h
 | n+1,x,m+1,y,h=>by
  obtain⟨f,e⟩:=bG h;have key:∀(p:List (Tm n))(q:List (Tm m)),aB (λa b=>ax n a m b) p q=true->(p.flatMap λy=>ay n y).length=(q.flatMap λy=>ay m y).length:=by
   intro p
   induction p with
   | nil=>intro q d;cases q with
    | nil=>rfl
    | cons _ _=>simp[aB]at d
   | cons a p ih=>intro q d;cases q with
    | nil=>simp[aB]at d
    | cons c q=>
     simp only[aB,aG]at d;simp only[bF,bm];rw[kD n a m c d.1,ih q d.2]
  simp only[ay,bi];rw[key _ _ e]
theorem bB{n:Nat}{x:Tm n}:bz n x=0 ↔ bZ n x=true/\fD n x<=12/\sz n x<=200:=by
 rw[<-gn];unfold wS;constructor
 ·intro a;split at a
  ·rename_i c;split at a
   ·cases a
   ·rename_i f;exact⟨c,by omega,by omega⟩
  ·cases a
 ·rintro ⟨b,d,e⟩;rw[if_pos b,if_neg (by omega)]
theorem Fl:(n:Nat)->(x:Tm n)->aD ⟨n,x⟩->((ay n x).length:Int)<=sz n x+1
 | 0,_,h=>(dj h).elim
 | n+1,x,h=>by
  have c:=eM (bD n x) (h (bD n x) (by simp[ay,bD]));by_cases a:x.1.1=4
  ·have key:∀l:List (Tm n),(∀y∈l,aD ⟨n,y⟩)->((l.flatMap λy=>ay n y).length:Int)<=(l.map λy=>1+sz n y).sum:=by
     intro l
     induction l with
     | nil=>intro _;simp
     | cons y l ih=>
      intro b;have g:=Fl n y (b y (by simp));have i:=ih λf e=>b f (bM _ e);simp only[bF,bm,aN,bI];omega
   have:=key x.2.2 λy d=>aV n x y h d;simp only[ay,bi,sz,if_pos a];omega
  ·have:x.2.2=[]:=bE (c.2.2.2.2 a);simp[ay,this,sz,a]
theorem nX{n:Nat}{x:Tm n}(a:bz n x=0):(ay n x).length<=201:=by
 obtain⟨b,_,c⟩:=bB.1 a;have:=Fl n x (aM.2 b);omega
theorem ig{m:Nat}{b:List (Tm m)}(a:gg m b=true):b.length=4/\∀y∈b,bz m y=0/\aD ⟨m,y⟩/\(bU ⟨m,y⟩=6\/aL m y=true):=by
 unfold gg at a;simp only[aG,cd,ci]at a;refine⟨a.1,λy c=>?_⟩;have:=a.2 y c;unfold BG at this;simp only[aG,iv,cv]at this;refine⟨this.1,aM.2 (bB.1 this.1).1,?_⟩;rw[fz];exact this.2
theorem qp{N n:Nat}(e:n<=N)(x:Tm n)(c:aD ⟨n,x⟩):aD ⟨N,aT N n x⟩:=by
 cases n with
 | zero=>exact(dj c).elim
 | succ n=>
  obtain⟨a,rfl⟩:∃a,N=a+1:=⟨N-1,by omega⟩;intro d b;simp only at b;rw[nz a n (by omega) x]at b;exact c d b
theorem vI{N:Nat}{x:Tm (N+1)}(c:cE (bD N x)=true)(k:∀y∈x.2.2,aD ⟨N,y⟩):aD ⟨N+1,x⟩:=by
 intro b a;simp only[ay,cm,jI]at a;rcases a with rfl|⟨y,d,a⟩
 ·exact c
 ·exact k y d b a
theorem wh(m:Nat)(b:List (Tm m))(self:Int)(k:1<=self/\self<=99)(i:∀y∈b,aD ⟨m,y⟩):(n:Nat)->(x:Tm n)->aD ⟨n,x⟩->(g:Tm (m+n))->vl m b self n x=some g->aD ⟨m+n,g⟩
 | 0,_,_,_,d=>by simp[vl]at d
 | n+1,x,hr,g,d=>by
  have r:=hr (bD n x) (by simp[ay,bD]);have B:x.2.2.length<=8:=mr (bD n x) r;simp only[vl]at d;split at d
  ·obtain⟨y,e,d⟩:=bu.1 d;split at d
   ·cases d
   ·obtain rfl:=aw d;exact qp (N:=m+n+1) (by omega) y (i y (aJ e))
  ·split at d
   ·cases d
   ·split at d
    ·split at d
     ·obtain rfl:=aw d;exact vI (N:=m+n) (by simp[cE,bO,bD,qK,k]) (by intro y e;cases e)
     ·split at d
      ·obtain⟨a,h,d⟩:=bu.1 d;obtain⟨c,z,d⟩:=bu.1 d;obtain⟨u,w,d⟩:=bu.1 d;obtain⟨v,A,d⟩:=bu.1 d;unfold tQ at d;split at d
       ·rename_i o;obtain rfl:=aw d;simp only[zU,aG]at o;exact vI (N:=m+n) (by simp[cE,bO,bD,o.2]) (by intro y e;cases e)
       ·cases d
      ·split at d
       ·obtain⟨a,h,d⟩:=bu.1 d;split at d
        ·obtain rfl:=aw d;exact qp (N:=m+n+1) (by omega) a (aV n x a hr (aJ h))
        ·cases d
       ·obtain⟨l,t,rfl⟩:=co.1 d;obtain⟨p,q⟩:=qT _ _ _ t;refine vI (N:=m+n) ?_ λy e=>?_
        ·have:(l.length:Int)<=8:=by omega
         simp[cE,df,bD,this]
        ·obtain⟨f,j⟩:=cW e;have s:f<x.2.2.length:=by rw[<-p];exact(aS.1 j).1
         exact wh m b self k i n x.2.2[f] (aV n x _ hr (jH _)) y (q f _ y (aI s) j)
    ·obtain rfl:=aw d;exact qp (N:=m+n+1) (by omega) x hr
def Fw(a:Int)(bd:Bool)(self:Int):Int:=if a=0 then if bd then if 1<=self/\self<=99 then 0 else 1 else 5 else a
def nU{N:Nat}(E:Int)(o:Option (Tm N)):Option (Tm N):=if E=0 then o.bind λa=>if bz N a=0 then some a else none else none
def Fv{N:Nat}(E:Int)(o:Option (Tm N)):Int:=if E=0 then if o.isSome then 0 else 7 else E
theorem Fg{n:Nat}{p:List (Tm n)}{s:ByteArray}{k:Nat}(a:p.length≠1+k):tZ n p s k=false:=by simp[tZ,a]
theorem Oe{n:Nat}{p:List (Tm (n+1))}{s:ByteArray}{k:Nat}{y:Tm (n+1)}(a:p.length=1+k)(b:p[0]?=some y):tZ (n+1) p s k=(y.1.1==2 && y.1.2.2.toList==s.toList):=by
 simp[tZ,a,b,bU,gj,bD]
theorem GC(a:Option Addr)(len pc:Nat)(s:ByteArray)(k:Nat)(w:World)(f:k<=8)(c:len≠1+k):ak 206 #[ae a len pc,af s,ab k] w λe w'=>e=.returned (.bool false)/\w'=w:=by
 have d:((len:Int)==1+(k:Int))=false:=by simp;omega
 have b:IntKind.i64.wrap (1+(k:Int))=1+(k:Int):=by rw[IntKind.wrap];simp[IntKind.bits,IntKind.signed];omega
 go_enter func206,ntmps206;go_wp2_with fail
 go_ret
 exact⟨rfl,rfl⟩
theorem GB(a po len pc:Nat)(s:ByteArray)(k:Nat)(b:Int)(c:ByteArray)(w:World)(l:len<=8)(j:k<=8)(g:len=1+k)(c0:w.cell? ⟨a,po,none⟩=some (ab b))(d:w.cell? ⟨a,po+2,none⟩=some (af c)):ak 206 #[ae (some ⟨a,po,none⟩) len pc,af s,ab k] w λe w'=>e=.returned (.bool (b==2 && c.toList==s.toList))/\w'=w:=by
 have h:((len:Int)==1+(k:Int))=true:=by simp;omega
 have f:IntKind.i64.wrap (1+(k:Int))=1+(k:Int):=by rw[IntKind.wrap];simp[IntKind.bits,IntKind.signed];omega
 have i:(0:Int)<(len:Int):=by omega
 cases hx:b==2
 ·go_enter func206,ntmps206;go_wp2_with fail
  go_ret
  exact⟨rfl,rfl⟩
 ·go_enter func206,ntmps206;go_wp2_with fail
  go_ret
  exact⟨rfl,rfl⟩
theorem Dt(n:Nat)(p:List (Tm n))(a:Option Addr)(pc B:Nat)(s:ByteArray)(k:Nat)(w:World)(d:fH B w n p a)(m:p.length<=8)(h:k<=8):ak 206 #[ae a p.length pc,af s,ab k] w λe w'=>e=.returned (.bool (tZ n p s k))/\w'=w:=by
 by_cases c:p.length=1+k
 ·rcases d with d|⟨b,o,rfl,u,d⟩
  ·rw[d]at c;simp at c;omega
  ·obtain⟨f,i⟩:∃f,p[0]?=some f:=⟨p[0]'(by omega),aI _⟩;obtain⟨g,t⟩:=d 0 f i;cases n with
   | zero=>exact g.elim
   | succ n=>
    rw[Oe c i];obtain⟨j,q,l,r⟩:=g;exact GB b o p.length pc s k f.1.1 f.1.2.2 w m h c (by simpa using j) (by simpa using l)
 ·rw[Fg c];exact GC a p.length pc s k w h c
def jZ(N:Nat)(o:Option (Tm N))(w:World)(e:Ending)(w':World):Prop:=
 ∃(a:Tm N)(b:Bool),e=.returned (.tuple #[dq N a,.bool b])/\Hid (aj w w'/\In w'.heap.size w' N a/\ch (λd=>w.heap.size<=d) N a/\b=o.isSome/\∀c,o=some c->ax N a N c=true)
def NL(m:Nat)(b:List (Tm m))(self:Int)(n:Nat):Prop:=∀(x:Tm n)(a:Option Addr)(c B:Nat)(w:World),In B w n x->aD ⟨n,x⟩->fH B w m b a->B<=w.heap.size->
 ak 189 #[.agg #[ae a 4 c,ab self],dq n x] w (jZ (m+n) (vl m b self n x) w)
def NN{N:Nat}(o:Option (Tm N))(w:World)(e:Ending)(w':World):Prop:=
 ∃(c:Int)(b:Bool),e=.returned (.tuple #[ab c,.bool b])/\Hid (aj w w'/\b=(o.isSome && o.all λa=>bU ⟨N,a⟩==1)/\∀a,o=some a->c=pI N a)
theorem DJ{N:Nat}{o:Option (Tm (N+1))}{w w1 w2:World}{y:Tm (N+1)}{r:Bool}(f:aj w w2)(d:aj w1 w2/\In w2.heap.size w2 (N+1) y/\ch (λq=>w1.heap.size<=q) (N+1) y/\r=o.isSome/\∀a,o=some a->ax (N+1) y (N+1) a=true)(c:Bool)(g:c=(r && y.1.1==1)):aj w w2/\c=(o.isSome && o.all λa=>bU ⟨N+1,a⟩==1)/\∀a,o=some a->y.1.2.1=pI (N+1) a:=by
 obtain⟨_,_,_,e,b⟩:=d;refine⟨f,?_,λa h=>?_⟩
 ·rw[g,e];cases ho:o with
  | none=>rfl
  | some a=>
   have:=(bG (b a ho)).1;simp[bU,this]
 ·have:=(bG (b a h)).1;simp[pI,gj,bD,this]
theorem Iz{w w':World}{a b:Obj}(d:Below ((w.alloc a).alloc b).heap.size ((w.alloc a).alloc b) w'):aj w w':=by
 have c:aj w ((w.alloc a).alloc b):=((ao _ _).alloc (am _) _).alloc (by simp) _;exact c.trans (d.mono c.size)
theorem tj(N:Nat)(o:Option (Tm (N+1)))(a:Option Addr)(c:Nat)(self:Int)(k l:Int)(m:ByteArray)(xa:Option Addr)(n xc:Nat)(w:World)(i:Hid (∀w1,aj w w1->ak 189 #[.agg #[ae a 4 c,ab self],.agg #[ab k,ab l,af m,ae xa n xc]] w1 (jZ (N+1) o w1))):ak 210 #[.agg #[ae a 4 c,ab self],.agg #[ab k,ab l,af m,ae xa n xc]] w (NN o w):=by
 go_enter func210,ntmps210;go_wp2_with fail;refine(i _ (((ao _ _).alloc (am _) _).alloc (by simp) _)).mono ?_;rintro s f ⟨d,q,rfl,e⟩;have HB:Hid (aj w f):=Iz e.1;have j:dq (N+1) d=.agg #[ab d.1.1,ab d.1.2.1,af d.1.2.2,ae d.2.1.1 d.2.2.length d.2.1.2]:=rfl;rw[j];clear j i;have h:=λr p=>ap (DJ HB e r p);clear HB e;have g:Hid (∀o:Obj,aj w f->aj w (f.alloc o).drew):=λo b=>(b.alloc b.size o).drew;cases q
 ·go_wp2_with fail;go_region;go_wp2_with fail
  go_ret2
  have b:=(h false rfl).out;exact⟨_,_,rfl,g _ b.1,b.2⟩
 ·go_wp2_with fail;go_region;go_wp2_with fail
  go_ret2
  have b:=(h _ rfl).out;exact⟨_,_,rfl,g _ b.1,b.2⟩
def OW{N:Nat}(o:Option (Tm N)):Prop:=∀a,o=some a->bU ⟨N,a⟩=1-> -1099511627776<=pI N a/\pI N a<=1099511627776
def wR{N:Nat}(b d:Option (Tm N)):Option (Tm (N+1)):=b.bind λa=>d.bind λc=>tQ N a c
theorem MU{N:Nat}{a d:Option (Tm N)}(b:(a.isSome && a.all λe=>bU ⟨N,e⟩==1)=false):wR a d=none:=by
 cases a with
 | none=>rfl
 | some f=>
  simp at b;cases d with
  | none=>rfl
  | some c=>simp[wR,tQ,zU,b]
theorem KQ{N:Nat}{d a:Option (Tm N)}(b:(a.isSome && a.all λe=>bU ⟨N,e⟩==1)=false):wR d a=none:=by
 cases d with
 | none=>rfl
 | some f=>
  cases a with
  | none=>rfl
  | some c=>
   simp at b;simp[wR,tQ,zU,b]
theorem KR{N:Nat}{b d:Option (Tm N)}{u v:Int}(h:true=(b.isSome && b.all λa=>bU ⟨N,a⟩==1))(i:true=(d.isSome && d.all λa=>bU ⟨N,a⟩==1))(j:∀a,b=some a->u=pI N a)(k:∀a,d=some a->v=pI N a)(l:OW b)(m:OW d):wR b d=(if -1099511627776<=u+v/\u+v<=1099511627776 then some (bO 1 (u+v) N)else none)/\(-1099511627776<=u/\u<=1099511627776)/\(-1099511627776<=v/\v<=1099511627776):=by
 cases b with
 | none=>simp at h
 | some e=>
  cases d with
  | none=>simp at i
  | some c=>
   have f:bU ⟨N,e⟩=1:=by simpa using h.symm
   have g:bU ⟨N,c⟩=1:=by simpa using i.symm
   rw[j e rfl,k c rfl];refine⟨?_,l e rfl f,m c rfl g⟩;simp[wR,tQ,zU,f,g,qK]
theorem ju:dx 0:=by simp[dx]
theorem lm(N:Nat)(k u:Int)(a:dx k)(b:dx u)(B:Nat)(w:World)(P:Nat->Prop):In B w (N+1) (bO k u N)/\ch P (N+1) (bO k u N):=
 ⟨⟨⟨a,b,aH _,aH _,aH _⟩,ah rfl⟩,ah rfl⟩
theorem xt(N:Nat)(k u:Int):ax (N+1) (bO k u N) (N+1) (bO k u N)=true:=dc rfl rfl
theorem kF{N:Nat}{w w':World}(a:aj w w'):jZ (N+1) none w (.returned (.tuple #[.agg #[ab 0,ab 0,af .empty,ae none 0 0],.bool false])) w':=
 ⟨bO 0 0 N,false,rfl,a,(lm N 0 0 ju ju _ _ (λ_=>True)).1,(lm N 0 0 ju ju 0 w _).2,rfl,λc b=>by cases b⟩
theorem yt{N:Nat}{w w':World}(c:aj w w')(k u:Int)(a:dx k)(b:dx u):jZ (N+1) (some (bO k u N)) w (.returned (.tuple #[.agg #[ab k,ab u,af .empty,ae none 0 0],.bool true])) w':=
 ⟨bO k u N,true,rfl,c,(lm N k u a b _ _ (λ_=>True)).1,(lm N k u a b 0 w _).2,rfl,λe d=>by obtain rfl:=aw d;exact xt N k u⟩
theorem nv(w:World)(a b c d:Obj):aj w ((((w.alloc a).alloc b).alloc c).alloc d):=((((ao _ _).alloc (am _) _).alloc (by simp) _).alloc (by simp;omega) _).alloc (by simp;omega) _
def nQ(q:Nat)(w:World):Prop:=(w.cell? ⟨q,0,none⟩=some (ab 0)/\w.cell? ⟨q,1,none⟩=some (ab 0)/\w.cell? ⟨q,2,none⟩=some (af .empty)/\w.cell? ⟨q,3,none⟩=some (ae none 0 0))/\(w.frozen? ⟨q,0,none⟩=false/\w.frozen? ⟨q,1,none⟩=false/\w.frozen? ⟨q,2,none⟩=false/\w.frozen? ⟨q,3,none⟩=false)/\q<w.heap.size
theorem nQ.below{q:Nat}{w w':World}(e:nQ q w)(c:aj w w'):nQ q w':=by
 obtain⟨⟨f,g,h,i⟩,⟨f0,f1,f2,f3⟩,d⟩:=e;have a:=λo=>c.cell (p:=⟨q,o,none⟩) d;have b:=λo=>c.frozen (p:=⟨q,o,none⟩) d;exact⟨⟨(a 0).trans f,(a 1).trans g,(a 2).trans h,(a 3).trans i⟩,⟨(b 0).trans f0,(b 1).trans f1,(b 2).trans f2,(b 3).trans f3⟩,aR d c.size⟩
theorem Di{w w':World}{s0 s1 g h i j y0 y1 y2 e:Value}{t1 t2 t3 t4:TypeId}(a:Below ((((w.alloc (.cells #[s0,s1] t1)).alloc (.cells #[g,h,i,j] t2)).alloc (.cells #[y0,y1,y2,e] t3)).alloc (.cells #[ab 0,ab 0,af .empty,ae none 0 0] t4)).heap.size ((((w.alloc (.cells #[s0,s1] t1)).alloc (.cells #[g,h,i,j] t2)).alloc (.cells #[y0,y1,y2,e] t3)).alloc (.cells #[ab 0,ab 0,af .empty,ae none 0 0] t4)) w'):(w'.cell? ⟨w.heap.size,0,none⟩=some s0/\w'.cell? ⟨w.heap.size,1,none⟩=some s1)/\ (w'.cell? ⟨w.heap.size+1+1,0,none⟩=some y0/\w'.cell? ⟨w.heap.size+1+1,1,none⟩=some y1/\w'.cell? ⟨w.heap.size+1+1,2,none⟩=some y2/\w'.cell? ⟨w.heap.size+1+1,3,none⟩=some e)/\nQ (w.heap.size+1+1+1) w':=by
 have k:=a.size;simp at k;have f:=λo=>a.cell (p:=⟨w.heap.size,o,none⟩) (by simp;omega);have b:=λo=>a.cell (p:=⟨w.heap.size+1+1,o,none⟩) (by simp;try omega);have d:=λo=>a.cell (p:=⟨w.heap.size+1+1+1,o,none⟩) (by simp);have c:=λo=>a.frozen (p:=⟨w.heap.size+1+1+1,o,none⟩) (by simp)
 exact⟨⟨(f 0).trans (by simp[go_sem]),(f 1).trans (by simp[go_sem])⟩,⟨(b 0).trans (by simp[go_sem]),(b 1).trans (by simp[go_sem]),(b 2).trans (by simp[go_sem]),(b 3).trans (by simp[go_sem])⟩,
  ⟨(d 0).trans (by simp[go_sem]),(d 1).trans (by simp[go_sem]),(d 2).trans (by simp[go_sem]),(d 3).trans (by simp[go_sem])⟩,⟨(c 0).trans (by simp[go_sem]),(c 1).trans (by simp[go_sem]),(c 2).trans (by simp[go_sem]),(c 3).trans (by simp[go_sem])⟩,by omega⟩
theorem de{w w':World}{q:Nat}(a:aj w w')(c:w.heap.size<=q)(v0 v1 v2 v3:Value):aj w (dd w' q 0 v0 v1 v2 v3):=
 ⟨a.os,a.tape,a.output,az a.size (dA (br _ _ _ _).symm),λk b=>(aX (by omega) _ _ _ _).trans (a.block k b)⟩
theorem KT(N:Nat)(p q:Option (Tm N))(B:Hid (OW p))(C:Hid (OW q))(a:Option Addr)(c:Nat)(self:Int)(D E:Int)(F:ByteArray)(xa:Option Addr)(G xc:Nat)(y0 y1:Int)(y2:ByteArray)(ya:Option Addr)(yl yc:Nat)(w:World)(u:Hid (∀w1,aj w w1->ak 210 #[.agg #[ae a 4 c,ab self],.agg #[ab D,ab E,af F,ae xa G xc]] w1 (NN p w1)))(x:Hid (∀w1,aj w w1->ak 210 #[.agg #[ae a 4 c,ab self],.agg #[ab y0,ab y1,af y2,ae ya yl yc]] w1 (NN q w1))):ak 207 #[.agg #[ae a 4 c,ab self],.agg #[ab D,ab E,af F,ae xa G xc],.agg #[ab y0,ab y1,af y2,ae ya yl yc]] w (jZ (N+1) (wR p q) w):=by
 obtain⟨o,t⟩:∃o,o=wR p q:=⟨_,rfl⟩;rw[<-t];have l:=ap t;clear t;go_enter func207,ntmps207;go_wp2_with fail;refine(u _ (nv _ _ _ _ _)).mono ?_;rintro K O ⟨b,j,rfl,d⟩;obtain⟨⟨L,M⟩,⟨d0,d1,d2,d3⟩,A⟩:=Di d.1;have r:=ap A;have HB:Hid (aj w O):=(nv _ _ _ _ _).trans (d.1.mono (nv _ _ _ _ _).size);have m:Hid (j=_/\_):=d.2;clear u d A;cases j
 ·have e:Hid (o=none):=l.trans (MU m.1.symm);obtain⟨⟨f,g,h,i⟩,⟨f0,f1,f2,f3⟩,_⟩:=r.out;go_wp2_with fail;rw[e.out];exact av (v:=.tuple #[.agg #[ab 0,ab 0,af .empty,ae none 0 0],.bool false]) (by simp[results,results207,go_sem,f,g,h,i];rfl) rfl (kF (de HB (by omega) _ _ _ _))
 ·go_wp2_with fail;refine(x _ HB).mono ?_;rintro K P ⟨v,j,rfl,d⟩;have k:Hid (aj w P):=HB.trans (d.1.mono HB.size);have n:Hid (j=_/\_):=d.2;have H:=ap (r.below d.1);obtain⟨⟨f,g,h,i⟩,⟨f0,f1,f2,f3⟩,_⟩:=H;clear x d HB L M d0 d1 d2 d3 r;cases j
  ·have e:Hid (o=none):=l.trans (KQ n.1.symm);go_wp2_with fail;rw[e.out];exact av (v:=.tuple #[.agg #[ab 0,ab 0,af .empty,ae none 0 0],.bool false]) (by simp[results,results207,go_sem,f,g,h,i];rfl) rfl (kF (de k (by omega) _ _ _ _))
  ·obtain⟨es,⟨R,S⟩,T,U⟩:=KR m.1 n.1 m.2 n.2 B C;have s:Hid (o=if -1099511627776<=b+v/\b+v<=1099511627776 then some (bO 1 (b+v) N)else none):=l.trans es;have Q:IntKind.i64.wrap (b+v)=b+v:=by rw[IntKind.wrap];simp[IntKind.bits,IntKind.signed];omega
   clear l m n es B C;by_cases y:b+v< -1099511627776
   ·have I:decide (b+v< -1099511627776)=true:=by simpa using y
    have e:Hid (o=none):=s.trans (if_neg (by omega));go_wp2_with fail;rw[e.out];exact av (v:=.tuple #[.agg #[ab 0,ab 0,af .empty,ae none 0 0],.bool false]) (by simp[results,results207,go_sem,f,g,h,i];rfl) rfl (kF (de k (by omega) _ _ _ _))
   ·have I:decide (b+v< -1099511627776)=false:=by simpa using y
    by_cases z:1099511627776<b+v
    ·have J:decide (1099511627776<b+v)=true:=by simpa using z
     have e:Hid (o=none):=s.trans (if_neg (by omega));go_wp2_with fail;rw[e.out];exact av (v:=.tuple #[.agg #[ab 0,ab 0,af .empty,ae none 0 0],.bool false]) (by simp[results,results207,go_sem,f,g,h,i];rfl) rfl (kF (de k (by omega) _ _ _ _))
    ·have J:decide (1099511627776<b+v)=false:=by simpa using z
     have e:Hid (o=some (bO 1 (b+v) N)):=s.trans (if_pos (by omega));go_wp2_with fail;rw[e.out];exact av (v:=.tuple #[.agg #[ab 1,ab (b+v),af .empty,ae none 0 0],.bool true]) (by simp[results,results207,go_sem,f,g,h,i];rfl) rfl (yt (de k (by omega) _ _ _ _) 1 (b+v) (by simp[dx]) ⟨by omega,by omega⟩)
def wg{n N:Nat}(f:Tm n->Option (Tm N))(p:List (Tm n)):List (Tm N):=p.map λy=>(f y).getD (aT N 0 ())
def Nl{n N:Nat}(f:Tm n->Option (Tm N))(p:List (Tm n))(k:Nat):Prop:=∀(i:Nat)(y:Tm n),i<k->p[i]?=some y->(f y).isSome=true
theorem Lb{n N:Nat}{f:Tm n->Option (Tm N)}{p:List (Tm n)}{k:Nat}(c:Nl f p k)(h:p.length<=k):cJ f p=some (wg f p):=by
 refine wZ f _ p λb e=>?_;obtain⟨g,a⟩:=cW e;have i:=(aS.1 a).1;have:=c g b (by omega) a;cases d:f b with
 | none=>rw[d]at this;cases this
 | some j=>rfl
theorem Nl.next{n N:Nat}{f:Tm n->Option (Tm N)}{p:List (Tm n)}{k:Nat}{x:Tm n}(d:Nl f p k)(g:p[k]?=some x)(e:true=(f x).isSome):Nl f p (k+1):=by
 intro b h i a;by_cases c:b=k
 ·subst c;rw[g]at a;obtain rfl:=aw a;exact e.symm
 ·exact d b h (by omega) a
theorem M6{n N:Nat}{f:Tm n->Option (Tm N)}{p:List (Tm n)}{k:Nat}{x:Tm n}(d:p[k]?=some x)(c:true=(f x).isSome):∃a,(wg f p)[k]?=some a/\f x=some a:=by
 cases b:f x with
 | none=>rw[b]at c;cases c
 | some a=>exact⟨a,by simp[wg,d,b],rfl⟩
theorem Ix{N:Nat}{P:List (Tm N)}{w wr:World}{g len k:Nat}{l:List (Tm N)}(j:uk N P len g k l wr)(v:P.length=len)(p:k=len)(n:aj w wr)(x:len<=8)(q:Nat)(r:w.heap.size<=q)(y:q<g)(v0 v1 v2 v3:Value):jZ (N+1) (some (df N P)) w (.returned (.tuple #[.agg #[ab 4,ab 0,af .empty,ae (some ⟨g,0,none⟩) len len],.bool true])) (dd wr q 0 v0 v1 v2 v3):=by
 obtain⟨m,c,e,f⟩:=j;subst p;rw[bA (by omega)]at f;rw[gX,mV,eF]at c;refine⟨((4,0,.empty),(some ⟨g,0,none⟩,k),l),true,?_,de n r _ _ _ _,?_,?_,rfl,λz t=>?_⟩
 ·simp only[dq,m]
 ·refine⟨⟨by simp[dx],by simp[dx],aH _,by simp only;omega,by unfold maxLen;simp only;omega⟩,ai ⟨g,0,rfl,by rw[br];exact c.lt.2,λh b a=>?_⟩⟩;obtain⟨i,u⟩:=e b (aJ a);have o:=c.cells h ⟨N,b⟩ (by simp[a]);refine⟨dC.block (aX (by omega) _ _ _ _) ?_,?_⟩
  ·cases N with
   | zero=>exact i.elim
   | succ N=>
    rw[cX];exact o
  ·rw[br];exact In.off (P:=λd=>g<d) (λd s=>aX (by omega) _ _ _ _) u i
 ·exact ai ⟨g,0,rfl,by omega,λh b a=>(e b (aJ a)).2.mono λd s=>by omega⟩
 ·obtain rfl:=aw t;exact dc rfl f
theorem Lc{n N:Nat}(f:Tm n->Option (Tm N))(p:List (Tm n)):(wg f p).length=p.length:=by simp[wg]
theorem uk.grow{N:Nat}{P:List (Tm N)}{len g k:Nat}{l:List (Tm N)}{w w':World}(e:uk N P len g k l w)(a:aj w w'):uk N P len g k l w':=by
 obtain⟨f,h,b,i⟩:=e;exact⟨f,h.below a,λd c=>⟨((b d c).1.below a).mono a.size,(b d c).2⟩,i⟩
theorem nQ.block{q:Nat}{w w':World}(d:nQ q w)(c:w'.heap[q]?=w.heap[q]?)(j:w.heap.size<=w'.heap.size):nQ q w':=by
 obtain⟨⟨e,f,g,h⟩,⟨f0,f1,f2,f3⟩,i⟩:=d;have a:=λo=>bw c o;have b:∀o,w'.frozen? ⟨q,o,none⟩=w.frozen? ⟨q,o,none⟩:=λo=>by simp[World.frozen?,c]
 exact⟨⟨(a 0).trans e,(a 1).trans f,(a 2).trans g,(a 3).trans h⟩,⟨(b 0).trans f0,(b 1).trans f1,(b 2).trans f2,(b 3).trans f3⟩,aR i j⟩
theorem uR{w w':World}(a:w.grownBy w' none):aj w w':=⟨a.os,a.tape,a.output,a.size,λk b=>a.block k b (by simp)⟩
theorem yK{w w':World}{s0 s1:Value}{t1 t2:TypeId}(f:((w.alloc (.cells #[s0,s1] t1)).alloc (.cells #[ab 0,ab 0,af .empty,ae none 0 0] t2)).grownBy w' none):aj w w'/\(w'.cell? ⟨w.heap.size,0,none⟩=some s0/\w'.cell? ⟨w.heap.size,1,none⟩=some s1)/\nQ (w.heap.size+1) w':=by
 have a:=uR f;have g:=a.size;simp at g;have d:aj w ((w.alloc (.cells #[s0,s1] t1)).alloc (.cells #[ab 0,ab 0,af .empty,ae none 0 0] t2)):=((ao _ _).alloc (am _) _).alloc (by simp) _;have e:=λo=>a.cell (p:=⟨w.heap.size,o,none⟩) (by simp;omega);have c:=λo=>a.cell (p:=⟨w.heap.size+1,o,none⟩) (by simp);have b:=λo=>a.frozen (p:=⟨w.heap.size+1,o,none⟩) (by simp)
 exact⟨d.trans (a.mono d.size),⟨(e 0).trans (by simp[go_sem]),(e 1).trans (by simp[go_sem])⟩,
  ⟨(c 0).trans (by simp[go_sem]),(c 1).trans (by simp[go_sem]),(c 2).trans (by simp[go_sem]),(c 3).trans (by simp[go_sem])⟩,⟨(b 0).trans (by simp[go_sem]),(b 1).trans (by simp[go_sem]),(b 2).trans (by simp[go_sem]),(b 3).trans (by simp[go_sem])⟩,by omega⟩
theorem Cu(m:Nat)(b:List (Tm m))(self:Int)(n:Nat)(ih:Hid (NL m b self n))(p:List (Tm n))(len:Nat)(W:Hid (p.length=len))(pa:Option Addr)(pc:Nat)(a:Option Addr)(c B:Nat)(w:World)(aZ:len<=8)(V:Hid (fH B w n p pa))(a1:Hid (∀y∈p,aD ⟨n,y⟩))(aB:Hid (fH B w m b a))(H:B<=w.heap.size):ak 208 #[.agg #[ae a 4 c,ab self],ae pa len pc] w (jZ (m+n+1) ((cJ (λy=>vl m b self n y) p).map (df (m+n))) w):=by
 obtain⟨o,T⟩:∃o,o=(cJ (λy=>vl m b self n y) p).map (df (m+n)):=⟨_,rfl⟩;rw[<-T];have aw:=ap T;clear T;obtain⟨a3,aF,aM,aN,aO⟩:=bR gm;go_enter func208,ntmps208;go_wp2_with (at_make;refine kS _ rfl _ _ 29 rfl _ 31 a3 _ 4 underlying29 aF aM aN _ _ _ _ len rfl rfl rfl rfl (by rw[aO];omega) (by unfold maxLen;omega) (am _) ?_;intro h aH S;have t:=ap (ri (m+n) (wg (λy=>vl m b self n y) p) len aH);have aT:=ap (uR S);have ay:=ap (yK S);clear aH S aF aM aN aO);have es:((w.alloc (.cells #[ae a 4 c,ab self] 278)).alloc (.cells #[ab 0,ab 0,af ⟨#[]⟩,ae none 0 0] 31)).heap.size=w.heap.size+1+1:=by simp
 rw[es]at t;clear es aT;obtain⟨aC,aE,D⟩:=ay.out
 have ar:Hid (aj w h/\(h.cell? ⟨w.heap.size,0,none⟩=some (ae a 4 c)/\h.cell? ⟨w.heap.size,1,none⟩=some (ab self))/\nQ (w.heap.size+1) h/\Nl (λy=>vl m b self n y) p 0/\∃l,uk (m+n) (wg (λy=>vl m b self n y) p) len (w.heap.size+1+1) 0 l h):=
  ⟨aC,aE,D,λs y bk _=>by omega,[],t.out⟩
 clear ay t aC aE D;go_wp2_with fail;go_loopw [16] (λs wr=>∃k:Nat,k<=len/\s=ab k/\Hid (aj w wr/\(wr.cell? ⟨w.heap.size,0,none⟩=some (ae a 4 c)/\wr.cell? ⟨w.heap.size,1,none⟩=some (ab self))/\nQ (w.heap.size+1) wr/\Nl (λy=>vl m b self n y) p k/\∃l,uk (m+n) (wg (λy=>vl m b self n y) p) len (w.heap.size+1+1) k l wr)) (λs _=>len-(intOf s).toNat)
 case atStart=>exact⟨0,by omega,rfl,ar.out⟩
 case round=>
  obtain⟨k,bl,rfl,ax⟩:=hrel;clear ar;obtain⟨i,⟨Z,aa⟩,G,x,l,j⟩:Hid (aj w wr)/\(wr.cell? ⟨w.heap.size,0,none⟩=some (ae a 4 c)/\wr.cell? ⟨w.heap.size,1,none⟩=some (ab self))/\Hid (nQ (w.heap.size+1) wr)/\Hid (Nl (λy=>vl m b self n y) p k)/\∃l,Hid (uk (m+n) (wg (λy=>vl m b self n y) p) len (w.heap.size+1+1) k l wr):=ax.out;clear ax;by_cases aG:k<len
  ·obtain⟨d,u⟩:∃d,p[k]?=some d:=⟨p[k]'(by rw[W.out];exact aG),aI _⟩;obtain⟨E,po,rfl,a0,aK⟩:∃E po,pa=some ⟨E,po,none⟩/\E<B/\∀(s:Nat)(y:Tm n),p[s]?=some y->dC w E (po+s*4) n y/\In B w n y:=by
    rcases V.out with P|P
    ·rw[P]at u;simp at u
    ·exact P
   obtain⟨I,J⟩:=aK k d u;have N:=ap u;have aV:=ap (a1.out d (aJ u));replace I:=I.below (i.out.mono H) a0;replace J:=J.below (i.out.mono H);have Q:B<=wr.heap.size:=az H i.out.size
   have F:Hid (∀h,aj wr h->ak 189 #[.agg #[ae a 4 c,ab self],dq n d] h (jZ (m+n) (vl m b self n d) h)):=
    λh g=>ih.out d a c B h (J.below (g.mono Q)) aV.out ((aB.out.below (i.out.mono H)).below (g.mono Q)) (az Q g.size)
   obtain⟨Y,U⟩:∃Y,Y=vl m b self n d:=⟨_,rfl⟩;rw[<-U]at F;have L:=ap U;clear aK u V U J;cases n with
   | zero=>exact I.elim
   | succ n=>
   obtain⟨ba,bb,bc,bd⟩:=I;have A:dq (n+1) d=.agg #[ab d.1.1,ab d.1.2.1,af d.1.2.2,ae d.2.1.1 d.2.2.length d.2.1.2]:=rfl;rw[A]at F;clear A;generalize d.2.2.length=bp at*;have bm:(0:Int)<=(k:Int):=by omega
   have bn:(k:Int)<(len:Int):=by omega
   have bo:E<wr.heap.size:=by omega
   have aL:w.heap.size<wr.heap.size:=by have:=G.out.2.2;omega
   go_wp2_with fail;refine(F.out _ ((ao _ _).alloc (am _) _)).mono ?_;rintro bi e ⟨y,a5,rfl,q⟩;have r:Hid (aj wr e):=((ao _ _).alloc (am _) _).trans (q.out.1.mono (by simp));have aA:Hid (aj w e):=i.out.trans (r.out.mono i.out.size);have O:=ap (G.out.below r.out);replace Z:=(aq r.out _ _ aL).trans Z;replace aa:=(aq r.out _ _ aL).trans aa;have A:dq (m+(n+1)) y=.agg #[ab y.1.1,ab y.1.2.1,af y.1.2.2,ae y.2.1.1 y.2.2.length y.2.1.2]:=rfl;rw[A];clear F ba bb bc bd G A;cases a5
   ·have K:Hid (o=none):=by
      have g:vl m b self (n+1) d=none:=by
       have:=q.out.2.2.2.1;rw[<-L.out];cases Y with
       | none=>rfl
       | some ad=>cases this
      show o=none;rw[aw.out,mf _ p k d N.out g];rfl
    obtain⟨⟨ag,ah,ai,al⟩,⟨f0,f1,f2,f3⟩,aQ⟩:=O.out;clear q j x;go_wp2_with fail;rw[K.out];exact av (v:=.tuple #[.agg #[ab 0,ab 0,af .empty,ae none 0 0],.bool false]) (by simp[results,results208,go_sem,ag,ah,ai,al,aQ];rfl) rfl (kF ((de aA.out (by omega) _ _ _ _).alloc (by rw[br];omega) _))
   ·have R:true=(vl m b self (n+1) d).isSome:=by rw[<-L.out];exact q.out.2.2.2.1
    obtain⟨ad,D,aP⟩:=M6 (f:=λy=>vl m b self (n+1) y) N.out R;have au:=ap (x.out.next N.out R);have t:=ap (j.out.step aG ad D r.out y q.out.2.1 (q.out.2.2.1.mono λaS X=>by have:=j.out.2.1.lt.2;simp at X;omega) (q.out.2.2.2.2 ad (by rw[L.out];exact aP)));have z:=ap (j.out.2.1.below r.out);have M:Hid (aj w (jy e (w.heap.size+1+1) (k*4) (gj (m+(n+1)) y))):=by
     have g:=aA.out;exact⟨g.os,g.tape,g.output,az g.size (dA (br _ _ _ _).symm),λaS X=>(aX (by omega) _ _ _ _).trans (g.block aS X)⟩
    have aU:Hid (∀o:Obj,aj w ((jy e (w.heap.size+1+1) (k*4) (gj (m+(n+1)) y)).alloc o)/\(((jy e (w.heap.size+1+1) (k*4) (gj (m+(n+1)) y)).alloc o).cell? ⟨w.heap.size,0,none⟩=some (ae a 4 c)/\((jy e (w.heap.size+1+1) (k*4) (gj (m+(n+1)) y)).alloc o).cell? ⟨w.heap.size,1,none⟩=some (ab self))/\nQ (w.heap.size+1) ((jy e (w.heap.size+1+1) (k*4) (gj (m+(n+1)) y)).alloc o)/\Nl (λy=>vl m b self (n+1) y) p (k+1)/\∃l,uk (m+(n+1)) (wg (λy=>vl m b self (n+1) y) p) len (w.heap.size+1+1) (k+1) l ((jy e (w.heap.size+1+1) (k*4) (gj (m+(n+1)) y)).alloc o)):=by
     intro o;have C:Below (jy e (w.heap.size+1+1) (k*4) (gj (m+(n+1)) y)).heap.size (jy e (w.heap.size+1+1) (k*4) (gj (m+(n+1)) y)) ((jy e (w.heap.size+1+1) (k*4) (gj (m+(n+1)) y)).alloc o):=(ao _ _).alloc (am _) _;have a2:(jy e (w.heap.size+1+1) (k*4) (gj (m+(n+1)) y)).heap.size=e.heap.size:=br _ _ _ _;have aY:=z.out.lt.2;refine⟨M.out.trans (C.mono M.out.size),⟨?_,?_⟩,?_,au.out,l++ [y],t.out.grow C⟩
     ·exact(aq C _ _ (by omega)).trans ((bw (aX (by omega) _ _ _ _) _).trans Z)
     ·exact(aq C _ _ (by omega)).trans ((bw (aX (by omega) _ _ _ _) _).trans aa)
     ·refine nQ.below ?_ C;exact O.out.block (aX (by omega) _ _ _ _) (dA a2.symm)
    obtain⟨an,aR⟩:∃an,(l.map (λd=>(⟨m+(n+1),d⟩:An))++List.replicate (len-k) zA)[k]?=some an:=⟨_,aI (by simp[j.out.1];omega)⟩;obtain⟨be,bf,bg,bh⟩:=z.out.cells k an aR;have bj:=λa4=>z.out.free a4;have aY:w.heap.size+1+1<e.heap.size:=z.out.lt.2;clear q j x r i t au M z aR O D aP R;go_wp2_with fail;go_roundw
    case rel=>exact⟨k+1,by omega,by go_num,aU.out _⟩
    case measure=>simp[intOf];omega
  ·obtain rfl:k=len:=by omega
   have K:Hid (o=some (df (m+n) (wg (λy=>vl m b self n y) p))):=by
    show o=_;rw[aw.out,Lb x.out (by rw[W.out];exact am _)];rfl
   have aW:=λa6 a7 a8 a9=>ap (Ix j.out (by rw[Lc];exact W.out) rfl i.out aZ (w.heap.size+1) (by omega) (by omega) a6 a7 a8 a9);obtain⟨⟨ag,ah,ai,al⟩,⟨f0,f1,f2,f3⟩,aQ⟩:=G.out;clear x j i V aB;go_wp2_with fail;rw[K.out];exact av (v:=.tuple #[.agg #[ab 4,ab 0,af .empty,ae (some ⟨w.heap.size+1+1,0,none⟩) k k],.bool true]) (by simp[results,results208,go_sem,ag,ah,ai,al];rfl) rfl (aW _ _ _ _).out
theorem Bo{P:Nat->Prop}:(N n:Nat)->n<=N->(x:Tm n)->ch P n x->ch P N (aT N n x)
 | _,0,_,_,k=>k.elim
 | 0,n+1,h,_,_=>by omega
 | N+1,n+1,h,x,k=>by
  rcases k with k|⟨b,o,e,d,k⟩
  ·exact ah (by simp[aT,k])
  ·refine ai ⟨b,o,e,d,λi y a=>?_⟩;simp only[aT,dt]at a;obtain⟨c,f,rfl⟩:=co.1 a;exact Bo N n (by omega) c (k i c f)
theorem J4(N n:Nat)(x:Tm (n+1)):dq (N+1) (aT (N+1) (n+1) x)=dq (n+1) x:=by simp[dq,aT]
theorem J0{N n:Nat}(d:n<=N){x y:Tm (n+1)}(a:aD ⟨n+1,x⟩)(b:ax (n+1) y (n+1) x=true):ax (N+1) (aT (N+1) (n+1) y) (N+1) (aT (N+1) (n+1) x)=true:=by
 have c:aD ⟨n+1,y⟩:=aM.2 (by rw[jB _ _ _ _ b];exact aM.1 a);exact bH _ _ _ _ _ _ (fA (N+1) (n+1) (by omega) y c) (bH _ _ _ _ _ _ b (dw _ _ _ _ (fA (N+1) (n+1) (by omega) x a)))
theorem IE{N n:Nat}(b:n<=N){x y:Tm (n+1)}{w w':World}(f:aD ⟨n+1,x⟩)(c:aj w w')(d:In w'.heap.size w' (n+1) y)(e:ch (λq=>w.heap.size<=q) (n+1) y)(g:ax (n+1) y (n+1) x=true)(r:Bool):jZ (N+1) (if r then some (aT (N+1) (n+1) x)else none) w (.returned (.tuple #[.agg #[ab y.1.1,ab y.1.2.1,af y.1.2.2,ae y.2.1.1 y.2.2.length y.2.1.2],.bool r])) w':=by
 refine⟨aT (N+1) (n+1) y,r,by rw[J4];rfl,c,oS _ _ (by omega) _ _ _ d,Bo _ _ (by omega) _ e,by cases r<;>rfl,λh a=>?_⟩;cases r with
 | false=>cases a
 | true=>
  obtain rfl:=aw a;exact J0 b f g
theorem wi{N:Nat}{o:Option (Tm (N+1))}{w w1 w2:World}{y:Tm (N+1)}{r:Bool}{q:Nat}(c:aj w w1)(k:w.heap.size<=q)(m:q<w1.heap.size)(e:aj w1 w2/\In w2.heap.size w2 (N+1) y/\ch (λq=>w1.heap.size<=q) (N+1) y/\r=o.isSome/\∀d,o=some d->ax (N+1) y (N+1) d=true)(v0 v1 v2 v3:Value):jZ (N+1) o w (.returned (.tuple #[.agg #[ab y.1.1,ab y.1.2.1,af y.1.2.2,ae y.2.1.1 y.2.2.length y.2.1.2],.bool r])) (dd w2 q 0 v0 v1 v2 v3):=by
 obtain⟨f,g,a,h,i⟩:=e;have l:=c.size;refine⟨y,r,rfl,de (c.trans (f.mono l)) k _ _ _ _,?_,a.mono λb j=>by omega,h,i⟩;rw[br];exact In.off (P:=λb=>w1.heap.size<=b) (λb j=>aX (by omega) _ _ _ _) a g
theorem wj{N n:Nat}(h:n<=N){x y:Tm (n+1)}{w w1 w2 g:World}{q:Nat}(p:aD ⟨n+1,x⟩)(e:aj w w1)(o:w.heap.size<=q)(s:q<w1.heap.size)(k:aj w1 w2/\In w2.heap.size w2 (n+1) y/\ch (λq=>w1.heap.size<=q) (n+1) y/\ax (n+1) y (n+1) x=true)(a:aj w2 g)(r:Bool)(v0 v1 v2 v3:Value):jZ (N+1) (if r then some (aT (N+1) (n+1) x)else none) w (.returned (.tuple #[.agg #[ab y.1.1,ab y.1.2.1,af y.1.2.2,ae y.2.1.1 y.2.2.length y.2.1.2],.bool r])) (dd g q 0 v0 v1 v2 v3):=by
 obtain⟨c,i,d,j⟩:=k;have f:=e.size;have l:=(e.trans (c.mono f)).trans (a.mono (az f c.size));refine IE h p (de l o _ _ _ _) ?_ (d.mono λb m=>by omega) j r;rw[br];exact In.off (P:=λb=>w1.heap.size<=b) (λb m=>aX (by omega) _ _ _ _) d ((i.below a).mono a.size)
theorem Ad{w:World}{s0 s1:Value}{t1 t2:TypeId}:aj w ((w.alloc (.cells #[s0,s1] t1)).alloc (.cells #[ab 0,ab 0,af .empty,ae none 0 0] t2))/\nQ (w.heap.size+1) ((w.alloc (.cells #[s0,s1] t1)).alloc (.cells #[ab 0,ab 0,af .empty,ae none 0 0] t2)):=by
 have a:=yK (w:=w) (s0:=s0) (s1:=s1) (t1:=t1) (t2:=t2) (w':=(w.alloc (.cells #[s0,s1] t1)).alloc (.cells #[ab 0,ab 0,af .empty,ae none 0 0] t2)) (gD _ _);exact⟨a.1,a.2.2⟩
theorem Ae{w w1:World}{s0 s1:Value}{t1 t2:TypeId}(a:w1=(w.alloc (.cells #[s0,s1] t1)).alloc (.cells #[ab 0,ab 0,af .empty,ae none 0 0] t2)):aj w w1/\nQ (w.heap.size+1) w1/\w1.cell? ⟨w.heap.size,0,none⟩=some s0/\w1.cell? ⟨w.heap.size,1,none⟩=some s1:=by
 subst a;have a:=yK (w:=w) (s0:=s0) (s1:=s1) (t1:=t1) (t2:=t2) (w':=(w.alloc (.cells #[s0,s1] t1)).alloc (.cells #[ab 0,ab 0,af .empty,ae none 0 0] t2)) (gD _ _);exact⟨a.1,a.2.2,a.2.1.1,a.2.1.2⟩
theorem M8(N:Nat)(o:Option (Tm (N+1)))(a:Option Addr)(c:Nat)(self:Int)(j:dx self)(pa:Option Addr)(len:Nat)(pc:Nat)(w:World)(d:Hid (∀w1,aj w w1->ak 206 #[ae pa len pc,af pW,ab 0] w1 λe w'=>e=.returned (.bool true)/\w'=w1))(i:Hid (o=some (bO 3 self N))):ak 202 #[.agg #[ae a 4 c,ab self],ae pa len pc] w (jZ (N+1) o w):=by
 go_enter func202,ntmps202;go_wp2_with fail;refine(d _ Ad.1).mono ?_;rintro e w1 ⟨rfl,g⟩;obtain⟨f,b,r,s⟩:=Ae g;have HB:=ap f;have h:=ap b;have p:w.heap.size<w1.heap.size:=by have:=b.2.2;omega
 clear g f b d;obtain⟨⟨k,l,m,n⟩,⟨f0,f1,f2,f3⟩,q⟩:=h;go_wp2_with fail;rw[i.out];exact av (v:=.tuple #[.agg #[ab 3,ab self,af .empty,ae none 0 0],.bool true]) (by simp[results,results202,go_sem,k,l,m,n];rfl) rfl (yt (de HB (by omega) _ _ _ _) 3 self (by simp[dx]) j)
theorem OI(N:Nat)(o:Option (Tm (N+1)))(a:Option Addr)(c:Nat)(self:Int)(b po:Nat)(j k:Int)(l:ByteArray)(xa:Option Addr)(m xc:Nat)(y0 y1:Int)(y2:ByteArray)(ya:Option Addr)(yl yc:Nat)(pc:Nat)(w:World)(p:Hid (∀w1,aj w w1->ak 206 #[ae (some ⟨b,po,none⟩) 3 pc,af pW,ab 0] w1 λe w'=>e=.returned (.bool false)/\w'=w1))(D:Hid (∀w1,aj w w1->ak 206 #[ae (some ⟨b,po,none⟩) 3 pc,af wk,ab 2] w1 λe w'=>e=.returned (.bool true)/\w'=w1))(g:b<w.heap.size)(G:w.cell? ⟨b,po+4,none⟩=some (ab j)/\w.cell? ⟨b,po+4+1,none⟩=some (ab k)/\w.cell? ⟨b,po+4+2,none⟩=some (af l)/\w.cell? ⟨b,po+4+3,none⟩=some (ae xa m xc))(H:w.cell? ⟨b,po+8,none⟩=some (ab y0)/\w.cell? ⟨b,po+8+1,none⟩=some (ab y1)/\w.cell? ⟨b,po+8+2,none⟩=some (af y2)/\w.cell? ⟨b,po+8+3,none⟩=some (ae ya yl yc))(E:Hid (∀w1,aj w w1->ak 207 #[.agg #[ae a 4 c,ab self],.agg #[ab j,ab k,af l,ae xa m xc],.agg #[ab y0,ab y1,af y2,ae ya yl yc]] w1 (jZ (N+1) o w1))):ak 202 #[.agg #[ae a 4 c,ab self],ae (some ⟨b,po,none⟩) 3 pc] w (jZ (N+1) o w):=by
 go_enter func202,ntmps202;go_wp2_with fail;refine(p _ Ad.1).mono ?_;rintro e w1 ⟨rfl,r⟩;obtain⟨q,i,Z,aa⟩:=Ae r;have HB:=ap q;have n:=ap i;have X:w.heap.size<w1.heap.size:=by have:=i.2.2;omega
 clear r q i p;have f:=aq HB;obtain⟨s,t,u,x⟩:=G;obtain⟨y,z,A,B⟩:=H;replace s:=(f _ _ g).trans s;replace t:=(f _ _ g).trans t;replace u:=(f _ _ g).trans u;replace x:=(f _ _ g).trans x;replace y:=(f _ _ g).trans y;replace z:=(f _ _ g).trans z;replace A:=(f _ _ g).trans A;replace B:=(f _ _ g).trans B;clear f;go_wp2_with fail;refine(D _ HB).mono ?_;rintro e P ⟨rfl,rfl⟩;have W:b<P.heap.size:=aR g HB.size;have U:¬(w.heap.size+1=b):=by omega
 have V:¬(b=w.heap.size+1):=by omega
 have I:∀d:Tm (N+1),dq (N+1) d=.agg #[ab d.1.1,ab d.1.2.1,af d.1.2.2,ae d.2.1.1 d.2.2.length d.2.1.2]:=λ_=>rfl;go_wp2_with fail
 go_region_held3 (λw'=>w'.cell? ⟨w.heap.size,0,none⟩=some (ae a 4 c)/\w'.cell? ⟨w.heap.size,1,none⟩=some (ab self)/\w'.cell? ⟨b,po+4,none⟩=some (ab j)/\w'.cell? ⟨b,po+4+1,none⟩=some (ab k)/\w'.cell? ⟨b,po+4+2,none⟩=some (af l)/\w'.cell? ⟨b,po+4+3,none⟩=some (ae xa m xc)
     /\w'.cell? ⟨b,po+8,none⟩=some (ab y0)/\w'.cell? ⟨b,po+8+1,none⟩=some (ab y1)/\w'.cell? ⟨b,po+8+2,none⟩=some (af y2)/\w'.cell? ⟨b,po+8+3,none⟩=some (ae ya yl yc))
  (go_keep) ((go_at_call 207;refine(E _ HB.drew).mono ?_;rintro e ad ⟨d,J,rfl,h⟩;rw[I];have f:=aq (cM h.1);have C:=ap (n.below (cM h.1));obtain⟨⟨Q,R,S,T⟩,⟨f0,f1,f2,f3⟩,Y⟩:=C))
 have F:=λK L M O=>ap (wi HB.drew (gW _ 1) n.2.2 h K L M O);clear h f;go_wp2_with fail;exact av (v:=.tuple #[.agg #[ab d.1.1,ab d.1.2.1,af d.1.2.2,ae d.2.1.1 d.2.2.length d.2.1.2],.bool J]) (by simp[results,results202,go_sem,Q,R,S,T]) rfl (F _ _ _ _)
theorem OJ(N:Nat)(o:Option (Tm (N+1)))(a:Option Addr)(c:Nat)(self:Int)(b po:Nat)(n:Nat)(L:n<=N)(x:Tm (n+1))(cl:Bool)(pc:Nat)(w:World)(l:Hid (∀w1,aj w w1->ak 206 #[ae (some ⟨b,po,none⟩) 2 pc,af pW,ab 0] w1 λe w'=>e=.returned (.bool false)/\w'=w1))(C:Hid (∀w1,aj w w1->ak 206 #[ae (some ⟨b,po,none⟩) 2 pc,af wk,ab 2] w1 λe w'=>e=.returned (.bool false)/\w'=w1))(D:Hid (∀w1,aj w w1->ak 206 #[ae (some ⟨b,po,none⟩) 2 pc,af CA,ab 1] w1 λe w'=>e=.returned (.bool true)/\w'=w1))(f:b<w.heap.size)(M:dC w b (po+4) (n+1) x)(H:Hid (aD ⟨n+1,x⟩))(G:Hid (∀w1,aj w w1->ak 56 #[.agg #[ab x.1.1,ab x.1.2.1,af x.1.2.2,ae x.2.1.1 x.2.2.length x.2.1.2]] w1 λe w'=>∃y:Tm (n+1),e=.returned (dq (n+1) y)/\Hid (aj w1 w'/\In w'.heap.size w' (n+1) y/\ch (λq=>w1.heap.size<=q) (n+1) y/\ax (n+1) y (n+1) x=true)))(E:Hid (∀w1,aj w w1->ak 54 #[.agg #[ab x.1.1,ab x.1.2.1,af x.1.2.2,ae x.2.1.1 x.2.2.length x.2.1.2]] w1 λe w'=>e=.returned (.bool cl)/\aj w1 w'))(F:Hid (o=if cl then some (aT (N+1) (n+1) x)else none)):ak 202 #[.agg #[ae a 4 c,ab self],ae (some ⟨b,po,none⟩) 2 pc] w (jZ (N+1) o w):=by
 go_enter func202,ntmps202;go_wp2_with fail;refine(l _ Ad.1).mono ?_;rintro e w1 ⟨rfl,p⟩;obtain⟨m,i,ah,ai⟩:=Ae p;have HB:=ap m;have k:=ap i;have ad:w.heap.size<w1.heap.size:=by have:=i.2.2;omega
 clear p m i l;have d:=aq HB;obtain⟨t,u,z,A⟩:=M;replace t:=(d _ _ f).trans t;replace u:=(d _ _ f).trans u;replace z:=(d _ _ f).trans z;replace A:=(d _ _ f).trans A;clear d;generalize x.2.2.length=S at*;go_wp2_with fail;refine(C _ HB).mono ?_;rintro e r ⟨rfl,rfl⟩;go_wp2_with fail;refine(D _ HB).mono ?_;rintro e r ⟨rfl,rfl⟩;have Z:b<r.heap.size:=aR f HB.size;have X:¬(w.heap.size+1=b):=by omega
 have Y:¬(b=w.heap.size+1):=by omega
 have J:∀y:Tm (n+1),dq (n+1) y=.agg #[ab y.1.1,ab y.1.2.1,af y.1.2.2,ae y.2.1.1 y.2.2.length y.2.1.2]:=λ_=>rfl;go_wp2_with fail
 go_region_held3 (λw'=>w'.cell? ⟨b,po+4,none⟩=some (ab x.1.1)/\w'.cell? ⟨b,po+4+1,none⟩=some (ab x.1.2.1)/\w'.cell? ⟨b,po+4+2,none⟩=some (af x.1.2.2)/\w'.cell? ⟨b,po+4+3,none⟩=some (ae x.2.1.1 S x.2.1.2))
  (go_keep) ((first|(go_at_call 56;refine(G _ HB.drew).mono ?_;rintro e s ⟨y,rfl,g⟩;rw[J];have d:=aq (cM g.1);have j:Hid (aj w s):=(HB.drew).trans (g.1.mono HB.size))|(go_at_call 54;refine(E _ j).mono ?_;rintro e al ⟨rfl,h⟩;have K:=aq h;have aa:b<s.heap.size:=aR f j.size;have B:=ap ((k.below (cM g.1)).below h);obtain⟨⟨T,U,V,W⟩,⟨f0,f1,f2,f3⟩,ag⟩:=B)))
 have I:=λO P Q R=>ap (wj L H HB.drew (gW _ 1) k.2.2 g h cl O P Q R);clear g d K h;go_wp2_with fail;rw[F.out];exact av (v:=.tuple #[.agg #[ab y.1.1,ab y.1.2.1,af y.1.2.2,ae y.2.1.1 y.2.2.length y.2.1.2],.bool cl]) (by simp[results,results202,go_sem,T,U,V,W]) rfl (I _ _ _ _)
theorem M7(N:Nat)(o:Option (Tm (N+1)))(a:Option Addr)(c:Nat)(self:Int)(pa:Option Addr)(len:Nat)(pc:Nat)(w:World)(h:Hid (∀w1,aj w w1->ak 206 #[ae pa len pc,af pW,ab 0] w1 λe w'=>e=.returned (.bool false)/\w'=w1))(i:Hid (∀w1,aj w w1->ak 206 #[ae pa len pc,af wk,ab 2] w1 λe w'=>e=.returned (.bool false)/\w'=w1))(j:Hid (∀w1,aj w w1->ak 206 #[ae pa len pc,af CA,ab 1] w1 λe w'=>e=.returned (.bool false)/\w'=w1))(k:Hid (∀w1,aj w w1->ak 208 #[.agg #[ae a 4 c,ab self],ae pa len pc] w1 (jZ (N+1) o w1))):ak 202 #[.agg #[ae a 4 c,ab self],ae pa len pc] w (jZ (N+1) o w):=by
 go_enter func202,ntmps202;go_wp2_with fail;refine(h _ Ad.1).mono ?_;rintro e w1 ⟨rfl,n⟩;obtain⟨m,f,F,G⟩:=Ae n;have HB:=ap m;have g:=ap f;have D:w.heap.size<w1.heap.size:=by have:=f.2.2;omega
 clear n m f h;go_wp2_with fail;refine(i _ HB).mono ?_;rintro e y ⟨rfl,rfl⟩;go_wp2_with fail;refine(j _ HB).mono ?_;rintro e y ⟨rfl,rfl⟩;go_wp2_with fail;refine(k _ HB).mono ?_;rintro e H ⟨b,r,rfl,d⟩;have p:=ap (g.below d.1);have q:=λs t u x=>ap (wi HB (gW _ 1) g.2.2 d s t u x);obtain⟨⟨z,A,B,C⟩,⟨f0,f1,f2,f3⟩,E⟩:=p;have l:dq (N+1) b=.agg #[ab b.1.1,ab b.1.2.1,af b.1.2.2,ae b.2.1.1 b.2.2.length b.2.1.2]:=rfl;rw[l];clear d k i j l;go_wp2_with fail;exact av (v:=.tuple #[.agg #[ab b.1.1,ab b.1.2.1,af b.1.2.2,ae b.2.1.1 b.2.2.length b.2.1.2],.bool r]) (by simp[results,results202,go_sem,z,A,B,C]) rfl (q _ _ _ _)
theorem ip(w:World)(s0 s1 a b c d:Value)(t1 t2 t3:TypeId):aj w (((w.alloc (.cells #[s0,s1] t1)).alloc (.cells #[a,b,c,d] t2)).alloc (.cells #[ab 0,ab 0,af .empty,ae none 0 0] t3))/\ nQ (w.heap.size+1+1) (((w.alloc (.cells #[s0,s1] t1)).alloc (.cells #[a,b,c,d] t2)).alloc (.cells #[ab 0,ab 0,af .empty,ae none 0 0] t3)):=by
 refine⟨(((ao _ _).alloc (am _) _).alloc (by simp) _).alloc (by simp;omega) _,⟨?_,?_,?_,?_⟩,⟨?_,?_,?_,?_⟩,?_⟩<;>simp[go_sem]
theorem Me{w W:World}{s0 s1 c d e f y0 y1 y2 a:Value}{t1 t2 t3 t4:TypeId}(b:(((w.alloc (.cells #[s0,s1] t1)).alloc (.cells #[c,d,e,f] t2)).alloc (.cells #[ab 0,ab 0,af .empty,ae none 0 0] t3)).alloc (.cells #[y0,y1,y2,a] t4)=W):aj w W/\nQ (w.heap.size+1+1) W/\ (W.cell? ⟨w.heap.size+1+1+1,0,none⟩=some y0/\W.cell? ⟨w.heap.size+1+1+1,1,none⟩=some y1/\W.cell? ⟨w.heap.size+1+1+1,2,none⟩=some y2/\W.cell? ⟨w.heap.size+1+1+1,3,none⟩=some a)/\w.heap.size+1+1+1<W.heap.size:=by
 subst b;refine⟨nv _ _ _ _ _,⟨⟨?_,?_,?_,?_⟩,⟨?_,?_,?_,?_⟩,?_⟩,⟨?_,?_,?_,?_⟩,?_⟩<;>simp[go_sem]
theorem Pk(N:Nat)(o:Option (Tm (N+1)))(a:Option Addr)(d:Int)(e:ByteArray)(xa:Option Addr)(f xc:Nat)(c:Nat)(self:Int)(w:World)(b:Hid (o=none)):ak 189 #[.agg #[ae a 4 c,ab self],.agg #[ab 6,ab d,af e,ae xa f xc]] w (jZ (N+1) o w):=by
 go_enter func189,ntmps189;go_wp2_with fail;rw[b.out];exact av (v:=.tuple #[.agg #[ab 0,ab 0,af .empty,ae none 0 0],.bool false]) (by simp[results,results189,go_sem];rfl) rfl (kF (ip w _ _ _ _ _ _ _ _ _).1)
theorem Pl(N:Nat)(o:Option (Tm (N+1)))(a:Option Addr)(p:Int)(q:ByteArray)(xa:Option Addr)(g xc:Nat)(c:Nat)(self:Int)(w:World)(e:Hid (∀w1,aj w w1->ak 202 #[.agg #[ae a 4 c,ab self],ae xa g xc] w1 (jZ (N+1) o w1))):ak 189 #[.agg #[ae a 4 c,ab self],.agg #[ab 4,ab p,af q,ae xa g xc]] w (jZ (N+1) o w):=by
 go_enter func189,ntmps189;go_wp2_with fail;refine(e _ (ip w _ _ _ _ _ _ _ _ _).1).mono ?_;rintro x z ⟨b,j,rfl,d⟩;have h:=ap ((ip w _ _ _ _ _ _ _ _ _).2.below d.1);have i:=λk l m n=>ap (wi (ip w _ _ _ _ _ _ _ _ _).1 (gW w.heap.size 2) (ip w _ _ _ _ _ _ _ _ _).2.2.2 d k l m n);obtain⟨⟨r,s,t,u⟩,⟨f0,f1,f2,f3⟩,y⟩:=h;have f:dq (N+1) b=.agg #[ab b.1.1,ab b.1.2.1,af b.1.2.2,ae b.2.1.1 b.2.2.length b.2.1.2]:=rfl;rw[f];clear d e f;go_wp2_with fail;exact av (v:=.tuple #[.agg #[ab b.1.1,ab b.1.2.1,af b.1.2.2,ae b.2.1.1 b.2.2.length b.2.1.2],.bool j]) (by simp[results,results189,go_sem,r,s,t,u]) rfl (i _ _ _ _)
theorem OE(N:Nat)(o:Option (Tm (N+1)))(a:Option Addr)(b:Int)(h:Int)(i:ByteArray)(xa:Option Addr)(j xc:Nat)(n:Nat)(r:n<=N)(x:Tm (n+1))(c:Nat)(self:Int)(w:World)(E:¬b=4)(F:¬b=5)(G:¬b=6)(m:Hid (aD ⟨n+1,x⟩))(f:Hid (∀w1,aj w w1->ak 56 #[.agg #[ab b,ab h,af i,ae xa j xc]] w1 λe w'=>∃y:Tm (n+1),e=.returned (dq (n+1) y)/\Hid (aj w1 w'/\In w'.heap.size w' (n+1) y/\ch (λq=>w1.heap.size<=q) (n+1) y/\ax (n+1) y (n+1) x=true)))(l:Hid (o=some (aT (N+1) (n+1) x))):ak 189 #[.agg #[ae a 4 c,ab self],.agg #[ab b,ab h,af i,ae xa j xc]] w (jZ (N+1) o w):=by
 go_enter func189,ntmps189;go_wp2_with fail;refine(f _ (ip w _ _ _ _ _ _ _ _ _).1).mono ?_;rintro e I ⟨y,rfl,d⟩;have k:=ap ((ip w _ _ _ _ _ _ _ _ _).2.below d.1);have p:=λs t u z=>ap (wj r m (ip w _ _ _ _ _ _ _ _ _).1 (gW w.heap.size 2) (ip w _ _ _ _ _ _ _ _ _).2.2.2 d (ao _ _) true s t u z);obtain⟨⟨A,B,C,D⟩,⟨f0,f1,f2,f3⟩,H⟩:=k;have g:dq (n+1) y=.agg #[ab y.1.1,ab y.1.2.1,af y.1.2.2,ae y.2.1.1 y.2.2.length y.2.1.2]:=rfl;rw[g];clear d f g;go_wp2_with fail;rw[l.out];exact av (v:=.tuple #[.agg #[ab y.1.1,ab y.1.2.1,af y.1.2.2,ae y.2.1.1 y.2.2.length y.2.1.2],.bool true]) (by simp[results,results189,go_sem,A,B,C,D]) rfl (p _ _ _ _)
theorem Pm(N:Nat)(o:Option (Tm (N+1)))(b bo:Nat)(k:Nat)(l:Int)(M:ByteArray)(xa:Option Addr)(Q xc:Nat)(n:Nat)(E:n<=N)(x:Tm (n+1))(c:Nat)(self:Int)(w:World)(A:l=(k:Int))(al:k<4)(ai:b<w.heap.size)(F:dC w b (bo+k*4) (n+1) x)(t:Hid (aD ⟨n+1,x⟩))(s:Hid (∀w1,aj w w1->ak 56 #[.agg #[ab x.1.1,ab x.1.2.1,af x.1.2.2,ae x.2.1.1 x.2.2.length x.2.1.2]] w1 λe w'=>∃y:Tm (n+1),e=.returned (dq (n+1) y)/\Hid (aj w1 w'/\In w'.heap.size w' (n+1) y/\ch (λq=>w1.heap.size<=q) (n+1) y/\ax (n+1) y (n+1) x=true)))(p:Hid (∀w1,ak 197 #[.agg #[ab x.1.1,ab x.1.2.1,af x.1.2.2,ae x.2.1.1 x.2.2.length x.2.1.2]] w1 λe w'=>e=.returned (.bool (!(x.1.1==6)))/\aj w1 w'))(r:Hid (o=if (!(x.1.1==6))=true then some (aT (N+1) (n+1) x)else none)):ak 189 #[.agg #[ae (some ⟨b,bo,none⟩) 4 c,ab self],.agg #[ab 5,ab l,af M,ae xa Q xc]] w (jZ (N+1) o w):=by
 go_enter func189,ntmps189;obtain⟨K,L,O,P⟩:=F;subst A;generalize x.2.2.length=R at*;generalize (!(x.1.1==6))=cl at*;have am:(0:Int)<=(k:Int):=by omega
 have an:(k:Int)<4:=by omega
 have ag:b<w.heap.size+1:=by omega
 have ah:b<w.heap.size+1+1:=by omega
 go_wp2_with fail;generalize i:World.alloc (World.alloc (World.alloc (World.alloc w _) _) _) _=X;obtain⟨g,h,⟨Y,Z,aa,ad⟩,B⟩:=Me i;have HB:=ap g;have f:=ap h;clear i g h K L O P;have z:∀y:Tm (n+1),dq (n+1) y=.agg #[ab y.1.1,ab y.1.2.1,af y.1.2.2,ae y.2.1.1 y.2.2.length y.2.1.2]:=λ_=>rfl
 go_region_held3 (λw'=>w'.cell? ⟨w.heap.size+1+1+1,0,none⟩=some (ab x.1.1)/\w'.cell? ⟨w.heap.size+1+1+1,1,none⟩=some (ab x.1.2.1)/\w'.cell? ⟨w.heap.size+1+1+1,2,none⟩=some (af x.1.2.2)/\w'.cell? ⟨w.heap.size+1+1+1,3,none⟩=some (ae x.2.1.1 R x.2.1.2))
  (go_keep) ((first|(go_at_call 56;refine(s _ HB.drew).mono ?_;rintro e j ⟨y,rfl,a⟩;rw[z];have C:=aq (cM a.1);have W:Hid (aj w j):=(HB.drew).trans (a.1.mono HB.size);have ao:w.heap.size+1+1+1<j.heap.size:=aR B a.1.size)|(go_at_call 197;refine(p _).mono ?_;rintro e au ⟨rfl,d⟩;have D:=aq d;have m:=ap ((f.below (cM a.1)).below d);obtain⟨⟨S,T,U,V⟩,⟨f0,f1,f2,f3⟩,ar⟩:=m)))
 have u:=λG H I J=>ap (wj E t HB.drew (gW w.heap.size 2) f.2.2 a d cl G H I J);clear a C D d;go_wp2_with fail;rw[r.out];exact av (v:=.tuple #[.agg #[ab y.1.1,ab y.1.2.1,af y.1.2.2,ae y.2.1.1 y.2.2.length y.2.1.2],.bool cl]) (by simp[results,results189,go_sem,S,T,U,V]) rfl (u _ _ _ _)
def wU(m n:Nat)(self:Int)(f:Tm n->Option (Tm (m+n)))(p:List (Tm n)):Option (Tm (m+n+1)):=
 if tZ n p pW 0 then some (bO 3 self (m+n))
 else if tZ n p wk 2 then (p[1]?).bind λa=>(p[2]?).bind λc=>(f a).bind λa=>(f c).bind λc=>tQ (m+n) a c
 else if tZ n p CA 1 then (p[1]?).bind λa=>if aL n a then some (aT (m+n+1) n a)else none
 else (cJ f p).map (df (m+n))
theorem Lg(m:Nat)(b:List (Tm m))(self:Int)(n:Nat)(x:Tm (n+1))(a:x.1.1=4):vl m b self (n+1) x=wU m n self (λy=>vl m b self n y) x.2.2:=by simp[vl,a,wU]
theorem Lf(m:Nat)(b:List (Tm m))(self:Int)(n:Nat)(x:Tm (n+1))(a:x.1.1=6):vl m b self (n+1) x=none:=by simp[vl,a]
theorem FG(m:Nat)(b:List (Tm m))(self:Int)(n:Nat)(x:Tm (n+1))(a:x.1.1≠4)(c:x.1.1≠5)(d:x.1.1≠6):vl m b self (n+1) x=some (aT (m+n+1) (n+1) x):=by simp[vl,a,c,d]
theorem OH(m:Nat)(b:List (Tm m))(self:Int)(n:Nat)(x:Tm (n+1))(y:Tm m)(k:Nat)(a:x.1.1=5)(c:x.1.2.1=(k:Int))(d:b[k]?=some y):vl m b self (n+1) x=if bU ⟨m,y⟩=6 then none else some (aT (m+n+1) m y):=by
 simp[vl,a,c,d]
theorem Bf{n:Nat}{p:List (Tm n)}{s:ByteArray}{k:Nat}(a:tZ n p s k=true):p.length=1+k:=by
 by_cases b:p.length=1+k
 ·exact b
 ·rw[Fg b]at a;cases a
theorem J5{N:Nat}{o:Option (Tm N)}(d:∀a,o=some a->aD ⟨N,a⟩):OW o:=by
 intro a g e;have c:=d a g;cases N with
 | zero=>exact(dj c).elim
 | succ N=>
  have b:=c (bD N a) (by simp[ay,bD]);have f:a.1.1=1:=e;simp only[cE,bD,f,qK,aG,cT]at b;exact⟨eL b.1.2.1,eL b.1.2.2⟩
theorem EA(m:Nat)(b:List (Tm m))(self:Int)(O:gg m b=true)(N:1<=self/\self<=99)(n:Nat)(ih:NL m b self n)(p:List (Tm n))(pa:Option Addr)(pc:Nat)(a:Option Addr)(c B:Nat)(w:World)(L:p.length<=8)(g:fH B w n p pa)(v:∀y∈p,aD ⟨n,y⟩)(C:fH B w m b a)(f:B<=w.heap.size):ak 202 #[.agg #[ae a 4 c,ab self],ae pa p.length pc] w (jZ (m+n+1) (wU m n self (λy=>vl m b self n y) p) w):=by
 have D:=λW k (Q:k<=8) h (e:aj w h)=>Dt n p pa pc B W k h (g.below (e.mono f)) L Q;have j:=D pW 0 (by omega);have o:=D wk 2 (by omega);have r:=D CA 1 (by omega);have K:∀y∈b,aD ⟨m,y⟩:=λy i=>((ig O).2 y i).2.1;cases e1:tZ n p pW 0
 ·rw[e1]at j;cases e2:tZ n p wk 2
  ·rw[e2]at o;cases e3:tZ n p CA 1
   ·rw[e3]at r;refine M7 (m+n) _ a c self pa p.length pc w j o r ?_;intro h e;have P:=Cu m b self n ih p p.length rfl pa pc a c B h L (g.below (e.mono f)) v (C.below (e.mono f)) (az f e.size);simpa [wU,e1,e2,e3]using P
   ·rw[e3]at r;have s:=Bf e3;rcases g with g|⟨G,po,rfl,R,g⟩
    ·rw[g]at s;simp at s
    ·obtain⟨y,i⟩:∃y,p[1]?=some y:=⟨p[1]'(by omega),aI _⟩;obtain⟨u,x⟩:=g 1 y i;have t:=v y (aJ i);have z:wU m n self (λy=>vl m b self n y) p=if aL n y=true then some (aT (m+n+1) n y)else none:=by simp[wU,e1,e2,e3,i]
     rw[z];cases n with
     | zero=>exact u.elim
     | succ n=>
     rw[show p.length=2 by omega]at j o r ⊢;refine OJ (m+(n+1)) _ a c self G po n (by omega) y (aL (n+1) y) pc w j o r (by omega) (by simpa using u) t ?_ ?_ rfl
     ·intro h e;exact ij (n+1) y B h (x.below (e.mono f)) (az f e.size) t
     ·intro h e;exact iN (n+1) y B h (x.below (e.mono f)) (az f e.size)
  ·rw[e2]at o;have s:=Bf e2;rcases g with g|⟨G,po,rfl,R,g⟩
   ·rw[g]at s;simp at s
   ·obtain⟨d,E⟩:∃d,p[1]?=some d:=⟨p[1]'(by omega),aI _⟩;obtain⟨y,i⟩:∃y,p[2]?=some y:=⟨p[2]'(by omega),aI _⟩;obtain⟨S,T⟩:=g 1 d E;obtain⟨u,x⟩:=g 2 y i;have M:=v d (aJ E);have t:=v y (aJ i);have z:wU m n self (λy=>vl m b self n y) p=wR (vl m b self n d) (vl m b self n y):=by simp[wU,e1,e2,E,i,wR]
    rw[z];have U:=J5 λJ F=>wh m b self N K n d M J F;have V:=J5 λJ F=>wh m b self N K n y t J F;cases n with
    | zero=>exact u.elim
    | succ n=>
    rw[show p.length=3 by omega]at j o ⊢;refine OI (m+(n+1)) _ a c self G po d.1.1 d.1.2.1 d.1.2.2 d.2.1.1 d.2.2.length d.2.1.2 y.1.1 y.1.2.1 y.1.2.2 y.2.1.1 y.2.2.length y.2.1.2 pc w j o (by omega) (by simpa [dC]using S) (by simpa [dC]using u) ?_;intro h e;refine KT (m+(n+1)) _ _ U V a c self d.1.1 d.1.2.1 d.1.2.2 d.2.1.1 d.2.2.length d.2.1.2 y.1.1 y.1.2.1 y.1.2.2 y.2.1.1 y.2.2.length y.2.1.2 h ?_ ?_
    ·intro H q;refine tj (m+n) _ a c self d.1.1 d.1.2.1 d.1.2.2 d.2.1.1 d.2.2.length d.2.1.2 H ?_;intro I A;have l:=(e.trans ((q.trans (A.mono q.size)).mono e.size));exact ih d a c B I (T.below (l.mono f)) M (C.below (l.mono f)) (az f l.size)
    ·intro H q;refine tj (m+n) _ a c self y.1.1 y.1.2.1 y.1.2.2 y.2.1.1 y.2.2.length y.2.1.2 H ?_;intro I A;have l:=(e.trans ((q.trans (A.mono q.size)).mono e.size));exact ih y a c B I (x.below (l.mono f)) t (C.below (l.mono f)) (az f l.size)
 ·rw[e1]at j;exact M8 (m+n) _ a c self ⟨by omega,by omega⟩ pa p.length pc w j (by simp[Hid,wU,e1])
theorem ID(m:Nat)(b:List (Tm m))(self:Int)(z:gg m b=true)(J:1<=self/\self<=99)(n:Nat):NL m b self n:=by
 induction n with
 | zero=>intro a j c q p v;exact v.elim
 | succ n ih=>
  intro a j c q p v u h g;obtain⟨y,H⟩:=ig z;have t:=u (bD n a) (by simp[ay,bD]);have I:a.2.2.length<=8:=mr (bD n a) t;by_cases s:a.1.1=6
  ·have f:=Pk (m+n) (vl m b self (n+1) a) j a.1.2.1 a.1.2.2 a.2.1.1 a.2.2.length a.2.1.2 c self p (Lf m b self n a s);rw[<-s]at f;exact f
  ·by_cases l:a.1.1=5
   ·have O:0<=a.1.2.1/\a.1.2.1<=3:=by
      have D:¬(5:Int)=1:=by decide
      have E:¬(5:Int)=2:=by decide
      have F:¬(5:Int)=3:=by decide
      have G:¬(5:Int)=4:=by decide
      simp only[cE,bD,l,qK,aG,cT,D,E,F,G,if_false]at t;exact⟨eL t.1.2.1,eL t.1.2.2⟩
    obtain⟨k,A⟩:∃k:Nat,a.1.2.1=(k:Int):=⟨a.1.2.1.toNat,by omega⟩;obtain⟨d,o⟩:∃d,b[k]?=some d:=⟨b[k]'(by omega),aI _⟩;have w:=(H d (aJ o)).2.1;have C:=OH m b self n a d k l A o;have M:=h;rcases h with h|⟨B,bo,rfl,N,h⟩
    ·rw[h]at y;simp at y
    ·obtain⟨K,L⟩:=h k d o;cases m with
     | zero=>exact(dj w).elim
     | succ m=>
     have f:=Pm (m+1+n) (vl (m+1) b self (n+1) a) B bo k a.1.2.1 a.1.2.2 a.2.1.1 a.2.2.length a.2.1.2 m (by omega) d c self p A (by omega) (by omega) K w
      (λi e=>ij (m+1) d q i (L.below (e.mono g)) (az g e.size) w)
      (λi=>jv d.1.1 d.1.2.1 d.1.2.2 d.2.1.1 d.2.2.length d.2.1.2 i)
      (by
       show vl (m+1) b self (n+1) a=_;rw[C];by_cases x:d.1.1=6
       ·simp[bU,x]
       ·simp[bU,x])
     rw[<-l]at f;exact f
   ·by_cases r:a.1.1=4
    ·have f:=Pl (m+n) (vl m b self (n+1) a) j a.1.2.1 a.1.2.2 a.2.1.1 a.2.2.length a.2.1.2 c self p (by
       intro i e;rw[Lg m b self n a r]
       exact EA m b self z J n ih a.2.2 a.2.1.1 a.2.1.2 j c q i I (fH.below (e.mono g) v.2) (λd o=>aV n a d u o) (h.below (e.mono g)) (az g e.size))
     rw[<-r]at f;exact f
    ·exact OE (m+n) (vl m b self (n+1) a) j a.1.1 a.1.2.1 a.1.2.2 a.2.1.1 a.2.2.length a.2.1.2 n (by omega) a c self p r l s u
       (λi e=>ij (n+1) a q i (v.below (e.mono g)) (az g e.size) u) (FG m b self n a r l s)
def wv(N:Nat):Tm (N+1):=bO 0 0 N
def Ar(N:Nat)(E:Int)(o:Option (Tm (N+1)))(w:World)(e:Ending)(w':World):Prop:=
 ∃a:Tm (N+1),e=.returned (.tuple #[dq (N+1) a,ab (Fv E (nU E o))])/\Hid (aj w w'/\In w'.heap.size w' (N+1) a/\ch (λb=>w.heap.size<=b) (N+1) a/\ax (N+1) a (N+1) ((nU E o).getD (wv N))=true)
theorem oZ{N:Nat}{E:Int}{o:Option (Tm (N+1))}{w w':World}{u:Int}(b:aj w w')(a:nU E o=none)(c:u=Fv E (nU E o)):Ar N E o w (.returned (.tuple #[.agg #[ab 0,ab 0,af .empty,ae none 0 0],ab u])) w':=by
 refine⟨wv N,by rw[c];rfl,b,(lm N 0 0 ju ju _ _ (λ_=>True)).1,(lm N 0 0 ju ju 0 w _).2,?_⟩;rw[a];exact xt N 0 0
theorem MP{N:Nat}{E:Int}{o:Option (Tm (N+1))}{a:Tm (N+1)}{w w1 w2 j:World}{y:Tm (N+1)}{q:Nat}(e:E=0)(n:o=some a)(l:bz (N+1) a=0)(f:aj w w1)(p:w.heap.size<=q)(t:q<w1.heap.size)(h:aj w1 w2)(r:In w2.heap.size w2 (N+1) y)(i:ch (λq=>w1.heap.size<=q) (N+1) y)(s:ax (N+1) y (N+1) a=true)(c:aj w2 j)(v0 v1 v2 v3:Value):Ar N E o w (.returned (.tuple #[.agg #[ab y.1.1,ab y.1.2.1,af y.1.2.2,ae y.2.1.1 y.2.2.length y.2.1.2],ab 0])) (dd j q 0 v0 v1 v2 v3):=by
 have g:=f.size;have k:=(f.trans (h.mono g)).trans (c.mono (az g h.size));have d:nU E o=some a:=by simp[nU,e,n,l]
 refine⟨y,by rw[d];simp[Fv,e,dq],de k p _ _ _ _,?_,i.mono λb m=>by omega,by rw[d];exact s⟩;rw[br];exact In.off (P:=λb=>w1.heap.size<=b) (λb m=>aX (by omega) _ _ _ _) i ((r.below c).mono c.size)
theorem B5{c:Int}{bd:Bool}{self:Int}(a:Fw c bd self=0):c=0/\bd=true/\1<=self/\self<=99:=by
 unfold Fw at a;split at a
 ·split at a
  ·split at a
   ·rename_i b d e;exact⟨b,d,e⟩
   ·cases a
  ·cases a
 ·rename_i b;exact absurd a b
theorem IC{m n:Nat}{b:List (Tm m)}{self:Int}{x:Tm (n+1)}{a:Tm (m+n+1)}(c:bz (n+1) x=0)(d:gg m b=true)(h:vl m b self (n+1) x=some a):(ay (m+n+1) a).length<=2097152:=by
 have f:=nX c;have e:=Cy m b self 201 (by omega) (λi g=>nX ((ig d).2 i g).1) (n+1) x a h;have:201*(ay (n+1) x).length<=201*201:=Nat.mul_le_mul_left 201 f;exact az e (by omega)
theorem ui(w:World)(a b c d:Value)(t1 t2:TypeId):aj w ((w.alloc (.cells #[a,b,c,d] t1)).alloc (.cells #[ab 0,ab 0,af .empty,ae none 0 0] t2))/\nQ (w.heap.size+1) ((w.alloc (.cells #[a,b,c,d] t1)).alloc (.cells #[ab 0,ab 0,af .empty,ae none 0 0] t2)):=by
 refine⟨((ao _ _).alloc (am _) _).alloc (by simp) _,⟨?_,?_,?_,?_⟩,⟨?_,?_,?_,?_⟩,?_⟩<;>simp[go_sem]
theorem Ez{w w':World}{b c d e y0 y1 y2 f:Value}{t1 t2:TypeId}(g:Below ((w.alloc (.cells #[b,c,d,e] t1)).alloc (.cells #[y0,y1,y2,f] t2)).heap.size ((w.alloc (.cells #[b,c,d,e] t1)).alloc (.cells #[y0,y1,y2,f] t2)) w'):w'.cell? ⟨w.heap.size,0,none⟩=some b/\w'.cell? ⟨w.heap.size,1,none⟩=some c/\w'.cell? ⟨w.heap.size,2,none⟩=some d/\w'.cell? ⟨w.heap.size,3,none⟩=some e:=by
 have a:=λo=>g.cell (p:=⟨w.heap.size,o,none⟩) (by simp;omega);exact⟨(a 0).trans (by simp[go_sem]),(a 1).trans (by simp[go_sem]),(a 2).trans (by simp[go_sem]),(a 3).trans (by simp[go_sem])⟩
theorem B6(N:Nat)(o:Option (Tm (N+1)))(a:Option Addr)(U c:Nat)(self:Int)(Z aa:Int)(ad:ByteArray)(xa:Option Addr)(ag xc:Nat)(l:Int)(bd:Bool)(w:World)(ai:Hid (∀w1,aj w w1->ak 53 #[.agg #[ab Z,ab aa,af ad,ae xa ag xc]] w1 λe w'=>e=.returned (ab l)/\aj w1 w'))(ah:Hid (∀w1,aj w w1->ak 183 #[ae a U c] w1 λe w'=>e=.returned (.bool bd)/\aj w1 w'))(r:Hid (Fw l bd self=0->∀w1,aj w w1->ak 189 #[.agg #[ae a U c,ab self],.agg #[ab Z,ab aa,af ad,ae xa ag xc]] w1 (jZ (N+1) o w1)))(p:Hid (Fw l bd self=0->∀(y f:Tm (N+1))(w1:World),o=some f->ax (N+1) y (N+1) f=true->In w1.heap.size w1 (N+1) y->ak 53 #[.agg #[ab y.1.1,ab y.1.2.1,af y.1.2.2,ae y.2.1.1 y.2.2.length y.2.1.2]] w1 λe w'=>e=.returned (ab (bz (N+1) f))/\aj w1 w')):ak 155 #[.agg #[ab Z,ab aa,af ad,ae xa ag xc],ae a U c,ab self] w (Ar N (Fw l bd self) o w):=by
 obtain⟨E,Q⟩:∃E,E=Fw l bd self:=⟨_,rfl⟩;rw[<-Q]at r p ⊢;have m:=ap Q;clear Q;go_enter func155,ntmps155;go_wp2_with fail;refine(ai _ (ui w _ _ _ _ _ _).1).mono ?_;rintro e w1 ⟨rfl,I⟩;have ar:=ap (Ez I);have A:Hid (aj w w1):=(ui w _ _ _ _ _ _).1.trans (I.mono (ui w _ _ _ _ _ _).1.size);have F:=ap ((ui w _ _ _ _ _ _).2.below I);clear I ai;by_cases d:l=0
 case neg=>
  have aI:(l !=0)=true:=by simpa using d
  have b:Hid (E=l/\l≠0):=⟨by rw[m.out];simp[Fw,d],d⟩;obtain⟨⟨g,h,i,j⟩,⟨f0,f1,f2,f3⟩,x⟩:=F.out;clear r m d p;go_wp2_with fail;exact av (v:=.tuple #[.agg #[ab 0,ab 0,af .empty,ae none 0 0],ab l]) (by simp[results,results155,go_sem,g,h,i,j];rfl) rfl (oZ (de A (by omega) _ _ _ _) (by simp[nU,b.out.1,b.out.2]) (by simp[Fv,b.out.1,b.out.2]))
 have aI:(l !=0)=false:=by simp[d]
 go_wp2_with fail;refine(ah _ A).mono ?_;rintro e aA ⟨rfl,J⟩;have au:=ap (nW (Nat.lt_of_succ_lt F.2.2) J ar);have n:Hid (aj w aA):=A.trans (J.mono A.size);have q:=ap (F.below J);clear J ah A ar F;cases bd
 ·have b:Hid (E=5):=by rw[Hid,m.out];simp[Fw,d]
  obtain⟨⟨g,h,i,j⟩,⟨f0,f1,f2,f3⟩,x⟩:=q.out;clear r m d p;go_wp2_with fail;exact av (v:=.tuple #[.agg #[ab 0,ab 0,af .empty,ae none 0 0],ab 5]) (by simp[results,results155,go_sem,g,h,i,j];rfl) rfl (oZ (de n (by omega) _ _ _ _) (by simp[nU,b.out]) (by simp[Fv,b.out]))
 ·by_cases ay:self<1
  ·have aE:decide (self<1)=true:=by simpa using ay
   have b:Hid (E=1):=by rw[Hid,m.out];simp only[Fw,d,cT];rw[if_neg (by omega)]
   obtain⟨⟨g,h,i,j⟩,⟨f0,f1,f2,f3⟩,x⟩:=q.out;clear r m d p;go_wp2_with fail;exact av (v:=.tuple #[.agg #[ab 0,ab 0,af .empty,ae none 0 0],ab 1]) (by simp[results,results155,go_sem,g,h,i,j];rfl) rfl (oZ (de n (by omega) _ _ _ _) (by simp[nU,b.out]) (by simp[Fv,b.out]))
  ·have aE:decide (self<1)=false:=by simpa using ay
   by_cases az:99<self
   ·have aF:decide (99<self)=true:=by simpa using az
    have b:Hid (E=1):=by rw[Hid,m.out];simp only[Fw,d,cT];rw[if_neg (by omega)]
    obtain⟨⟨g,h,i,j⟩,⟨f0,f1,f2,f3⟩,x⟩:=q.out;clear r m d p;go_wp2_with fail;exact av (v:=.tuple #[.agg #[ab 0,ab 0,af .empty,ae none 0 0],ab 1]) (by simp[results,results155,go_sem,g,h,i,j];rfl) rfl (oZ (de n (by omega) _ _ _ _) (by simp[nU,b.out]) (by simp[Fv,b.out]))
   ·have aF:decide (99<self)=false:=by simpa using az
    have B:Hid (E=0):=by rw[Hid,m.out];simp only[Fw,d,cT];rw[if_pos (by omega)]
    obtain⟨aM,aN,aO,aP⟩:=au.out;have aR:w.heap.size<aA.heap.size:=Nat.lt_of_succ_lt q.2.2;clear m d;go_wp2_with fail;refine(r B _ n).mono ?_;rintro e z ⟨y,aL,rfl,k⟩;have K:Hid (aj w z):=n.trans (k.1.mono n.size);have G:=ap (q.below k.1);have aw:dq (N+1) y=.agg #[ab y.1.1,ab y.1.2.1,af y.1.2.2,ae y.2.1.1 y.2.2.length y.2.1.2]:=rfl;rw[aw];clear r aw aM aN aO aP au;cases aL
    ·have al:Hid (o=none):=by
       have:=k.2.2.2.1;cases o with
       | none=>rfl
       | some f=>cases this
     obtain⟨⟨g,h,i,j⟩,⟨f0,f1,f2,f3⟩,x⟩:=G.out;clear k p;go_wp2_with fail;exact av (v:=.tuple #[.agg #[ab 0,ab 0,af .empty,ae none 0 0],ab 7]) (by simp[results,results155,go_sem,g,h,i,j,x];rfl) rfl (oZ ((de K (by omega) _ _ _ _).alloc (by rw[br];omega) _) (by simp[nU,al.out]) (by simp[Fv,nU,al.out,B.out]))
    ·obtain⟨f,T⟩:∃f,o=some f:=by
       have:=k.2.2.2.1;cases o with
       | none=>cases this
       | some f=>exact⟨f,rfl⟩
     have H:=ap T;have aq:=ap (k.2.2.2.2 f T)
     have O:Hid (∀w1,aj z w1->ak 53 #[.agg #[ab y.1.1,ab y.1.2.1,af y.1.2.2,ae y.2.1.1 y.2.2.length y.2.1.2]] w1 λe w'=>e=.returned (ab (bz (N+1) f))/\aj w1 w'):=
      λw1 t=>p B y f w1 H aq ((k.2.1.below t).mono t.size)
     obtain⟨s,S⟩:∃s,s=bz (N+1) f:=⟨_,rfl⟩;rw[<-S]at O;have M:=ap S;have P:=λ(D:World)(aH:aj z D)(aG:s=0) V W X Y=>ap (MP (E:=E) B H (M.symm.trans aG) n (gW _ 1) q.2.2 k.1 k.2.1 k.2.2.1 aq aH V W X Y);clear T S p k q n;go_wp2_with fail;refine(O _ ((ao _ _).alloc (am _) _)).mono ?_;rintro e D ⟨rfl,R⟩;obtain⟨⟨t0,t1,t2,t3⟩,_⟩:=EN R;have L:Hid (aj z D):=((ao _ _).alloc (am _) _).trans (R.mono (by simp));have aB:=ap (G.below L);have aD:Hid (aj w D):=K.trans (L.mono K.size);obtain⟨⟨g,h,i,j⟩,⟨f0,f1,f2,f3⟩,x⟩:=aB;have aK:¬(w.heap.size+1=z.heap.size):=by have:=G.2.2;omega
     have aQ:¬(z.heap.size=w.heap.size+1):=λe=>aK e.symm;clear R O G;by_cases u:s=0
     ·have aJ:(s !=0)=false:=by simp[u]
      have aC:=λV W X Y=>P D L u V W X Y;clear P u;go_wp2_with fail;exact av (v:=.tuple #[.agg #[ab y.1.1,ab y.1.2.1,af y.1.2.2,ae y.2.1.1 y.2.2.length y.2.1.2],ab 0]) (by simp[results,results155,go_sem,g,h,i,j]) rfl (aC _ _ _ _)
     ·have aJ:(s !=0)=true:=by simpa using u
      have an:=ap u;clear P u;go_wp2_with fail;exact av (v:=.tuple #[.agg #[ab 0,ab 0,af .empty,ae none 0 0],ab 7]) (by simp[results,results155,go_sem,g,h,i,j];rfl) rfl (oZ (de aD (by omega) _ _ _ _) (by have t:=M.out;have C:=an.out;rw[t]at C;simp[nU,H.out,C]) (by have t:=M.out;have C:=an.out;rw[t]at C;simp[Fv,nU,H.out,B.out,C]))
theorem D5(n m:Nat)(x:Tm (n+1))(b:List (Tm m))(a:Option Addr)(c B:Nat)(self:Int)(w:World)(p:In B w (n+1) x)(k:fH B w m b a)(f:B<=w.heap.size)(r:(ay (n+1) x).length<=2097152)(t:b.length<=9223372036854775807)(s:∀y∈b,(ay m y).length<=2097152):ak 155 #[dq (n+1) x,ae a b.length c,ab self] w (Ar (m+n) (Fw (bz (n+1) x) (gg m b) self) (vl m b self (n+1) x) w):=by
 refine B6 (m+n) _ a b.length c self x.1.1 x.1.2.1 x.1.2.2 x.2.1.1 x.2.2.length x.2.1.2 (bz (n+1) x) (gg m b) w ?_ ?_ ?_ ?_
 ·intro e d;exact dL (n+1) x B e (p.below (d.mono f)) (az f d.size) r
 ·intro e d;exact Az m b a c B e (k.below (d.mono f)) t s (az f d.size)
 ·intro i e d;obtain⟨h,g,j⟩:=B5 i;have q:=(ig g).1;rw[q];exact ID m b self g j (n+1) x a c B e (p.below (d.mono f)) (aM.2 (bB.1 h).1) (k.below (d.mono f)) (az f d.size)
 ·intro i y A e z o u;obtain⟨h,g,j⟩:=B5 i;have v:=IC h g z;have l:=dL (m+n+1) y e.heap.size e u (am _) (by rw[kD _ _ _ _ o];exact v);rw[bQ o]at l;exact l
end Go.Proofs.YtmmahddlcldmiaaGreat
