/- Proved here: plain facts and contracts. No condition but what each names. -/
import Derived.Test.YthjclakhibnamaaGreatDoorD05
import Derived.Maps.AppendAt
import Derived.Deep.QuietTactic
import Derived.BigQuiet
namespace Go.Proofs.YthjclakhibnamaaGreatDoor
open Go.RowKit Go.Proofs.Tryz
open Go.RowKit Go.Maps
set_option maxHeartbeats 1000000
set_option maxRecDepth 100000
abbrev Wd:=Int×Int
def qG(x:Wd):List az:=[ae x.1,ae x.2]
def bA(l:List Wd):List az:=l.flatMap qG
theorem cQ(l:List Wd):(bA l).length=l.length*2:=by
 induction l with
 | nil=>rfl
 | cons a l ih=>
  have:bA (a::l)=qG a++bA l:=rfl;rw[this,br,ih,bv];have:(qG a).length=2:=rfl;omega
theorem qE(l r:List Wd):bA (l++r)=bA l++bA r:=by simp[bA]
theorem rI(l:List Wd):∀b∈bA l,b.oneCell'=true:=by
 intro b a;simp only[bA,kt]at a;obtain⟨c,_,a⟩:=a;simp[qG]at a;rcases a with rfl|rfl<;>rfl
theorem jv(l:List Wd)(k:Nat)(x:Wd)(a:l[k]?=some x)(j:Nat)(e:j<2):(bA l)[k*2+j]?=(qG x)[j]? :=by
 induction l generalizing k with
 | nil=>simp at a
 | cons b l ih=>
  have c:bA (b::l)=qG b++bA l:=rfl;have d:(qG b).length=2:=rfl;rw[c];cases k with
  | zero=>
   simp at a;subst a;rw[dO (by omega)];simp
  | succ k=>
   rw[ft (by omega),d,show (k+1)*2+j-2=k*2+j by omega];exact ih k (by simpa using a)
theorem lV:(Tryz.prog.info? 184).map (λi=>(i.zero,i.size,i.bytes))=some (some (.agg #[ae 0,ae 0]),2,16):=by kernel_rfl
theorem Ml(w:ah)(x:Wd):∀j b,(qG x)[j]?=some b->(w.alloc (.cells #[ae x.1,ae x.2] 184)).cell? ((⟨w.heap.size,0,none⟩:Addr).add j)=some b:=by
 intro j b a;rw[fF];have:j<2:=(bj.1 a).1;have c:j=0\/j=1:=by omega
 rcases c with rfl|rfl<;>simp[qG]at a<;>subst a<;>simp[go_sem]
theorem Og(x:Wd):∀b∈qG x,b.oneCell'=true:=by
 intro b a;simp[qG]at a;rcases a with rfl|rfl<;>rfl
variable{D:DataW Unit}{z k room:Int}{b ps vs ws:List Wd}{d A C G L N base c g i len m n p po q s sz xc:Nat}{M:Nat->Prop}{E o:Obj}{P:Program}{u F:Type}{e:TypeId}{t mv:Value}{B w w' w0 w1 w2 w4 wA wr:ah}{a xa:ay}{j H lv tv v:az}{nm:bm}{h:cR}{xs ys:dI}{x:u}{y:F}{l:List u}{r:List F}
theorem tJ(w:ah)(t a ty e d:TypeId)(g:P.underlying t=some (.slice e))(h:P.underlying a=some (.slice d))(i:TypeInfo)(f:P.info? e=some i)(b xa:ay)(n c m xc:Nat):(Builtin.append_ #[t,a] ty #[af b n c,af xa m xc]).run P w=(Builtin.append_ #[t,t] ty #[af b n c,af xa m xc]).run P w:=by
 simp[Builtin.append_,cM g,cM h,sizeOf,typeInfo,f,Builtin.lenOf]
theorem oH(w:ah)(t c ty e d:TypeId)(i:TypeInfo)(k:P.underlying t=some (.slice e))(l:P.underlying c=some (.slice d))(g:P.info? e=some i)(b xa:ay)(n cap xc:Nat)(j:n<=cap):(Builtin.append_ #[t,c] ty #[af b n cap,af xa 0 xc]).run P w=.ok (af b n cap) w:=by
 have h:∀a:Addr,(loadCells a 0).run P w=.ok #[] w:=λa=>run_loadCells_list (P:=P) w a [] (λm o f=>by simp at f);cases b<;>cases xa<;>simp[Builtin.append_,cM k,cM l,sizeOf,typeInfo,g,Builtin.lenOf,Builtin.firstCells,j,storeCells,h]
def fB(w:ah)(ps:List Wd)(xa:ay):Prop:=ps=[]\/∃ad,xa=some ad/\∀j a,(bA ps)[j]?=some a->w.cell? (ad.add j)=some a
theorem tK(ty:TypeId)(c:w.ownsRow base 184 2 v n xs)(s:fB w ps xa)(f:ps.length=m)(y:n+m<=200000)(p:base<=w.heap.size):∃a w',(Builtin.append_ #[188,187] ty #[v,af xa m xc]).run Tryz.prog w=.ok a w'/\w'.ownsRow base 184 2 a (n+m) (xs++bA ps)/\w.grownBy w' v.ownBlock/\(a.ownBlock=v.ownBlock\/a.ownBlock=some w.heap.size):=by
 obtain⟨e,hit,t,u,x⟩:=bT lV;rcases s with rfl|⟨ad,rfl,q⟩
 ·obtain rfl:m=0:=f.symm;obtain⟨b,cap,d,r⟩:∃b cap,v=af b n cap/\n<=cap:=by
   rcases c.2 with⟨rfl,rfl⟩|⟨h,cap,g,rfl,_,_,i,_⟩
   ·exact⟨none,0,rfl,aA _⟩
   ·exact⟨_,cap,rfl,i⟩
  subst d;refine⟨_,w,oH w _ _ ty _ _ e underlying188 underlying187 hit b xa n cap xc r,by simpa [bA]using c,gT _ _,ak rfl⟩
 ·obtain⟨b,cap,d⟩:∃b cap,v=af b n cap:=by
    rcases c.2 with⟨rfl,rfl⟩|⟨h,cap,g,rfl,_⟩
    ·exact⟨none,0,rfl⟩
    ·exact⟨_,cap,rfl⟩
  subst d;rw[tJ w _ _ ty _ _ underlying188 underlying187 e hit];obtain⟨a,w',j,k,l,_,o⟩:=run_append_own_at (P:=Tryz.prog) w base 188 ty 184 e _ 2 16 underlying188 hit t u x rfl (by decide) _ n xs c ad m xc (bA ps) (by rw[cQ,f]) q (rI _) (by unfold maxLen;omega) (by omega) p;exact⟨a,w',j,k,l,o⟩
theorem qu{c:Array Oper}{d:List Oper}{o:Oper}{a:Act}{Q:Exit->Act->bF}(l:o.guard=none)(s x:Operand)(q:o.op=.call {callee:=.builtin .append,args:= #[s,x],argTypes:= #[188,187]})(u:a.eval s=v)(z:a.eval x=af xa m xc)(r:w.ownsRow base 184 2 v n xs)(y:fB w ps xa)(p:ps.length=m)(h:n+m<=200000)(k:base<=w.heap.size)(i:∀b w',w'.ownsRow base 184 2 b (n+m) (xs++bA ps)->w.grownBy w' v.ownBlock->(b.ownBlock=v.ownBlock\/b.ownBlock=some w.heap.size)->wpList Tryz.prog c Q d (a.put o.dst b) w'):wpList Tryz.prog c Q (o::d) a w:=
 wpList_plain l λA j=>by
  obtain⟨b,w',t,e,f,g⟩:=tK (xc:=xc) o.type r y p h k;unfold Oper.wp execOp;simp only[q,resolve,invoke,builtin,jF,jG,jE,jB,bB,dB,u,z,t];exact j _ _ (i b w' e f g)
def Oj(base a po:Nat)(tv:az)(ws ps:List Wd)(w w':ah)(c:az):Prop:=
 w'.ownsRow base 184 2 c (ws.length+1+ps.length) (bA (ws++(0,(ps.length:Int))::ps))/\w'.heap[a]?=(w.setCell ⟨a,po,none⟩ c).heap[a]? /\
 co (λb=>b=a\/tv.ownBlock=some b) w w'/\∀b,c.ownBlock=some b->(tv.ownBlock=some b\/w.heap.size<=b)
theorem G3{row:dd}(h:d<w.heap.size)(i:row≠some d)(e:((w.alloc o).alloc E).grownBy w2 row)(f:w.cell? ⟨d,po,none⟩=some v)(g:w.frozen? ⟨d,po,none⟩=false):w2.cell? ⟨d,po,none⟩=some v/\w2.frozen? ⟨d,po,none⟩=false/\d<w2.heap.size:=by
 have b:((w.alloc o).alloc E).heap.size=w.heap.size+2:=by simp
 have c:w2.heap[d]?=w.heap[d]? :=((e.block d (by omega) (λb=>i b.symm)).trans ((dC (w.alloc o) E none).block d (by simp;omega) (by simp))).trans ((dC w o none).block d h (by simp));have:=e.size;exact⟨(bN c po).trans f,(jH (a:=⟨d,po,none⟩) c).trans g,by omega⟩
theorem ML{pa:ay}(r:d<w.heap.size)(p:base<=w.heap.size)(g:tv.ownBlock≠some d)(m:w2.ownsRow base 184 2 (af (some ⟨A,0,none⟩) (L+1) C) (L+1) ys)(c:((w.alloc o).alloc E).grownBy w2 tv.ownBlock)(h:tv.ownBlock=some A\/A=w.heap.size+2)(po:Nat)(n:∀w1,co (λb=>b=d\/tv.ownBlock=some b) w w1->fB w1 ps pa):(w2.setCell ⟨d,po,none⟩ (af (some ⟨A,0,none⟩) (L+1) C)).ownsRow base 184 2 (af (some ⟨A,0,none⟩) (L+1) C) (L+1) ys/\fB (w2.setCell ⟨d,po,none⟩ (af (some ⟨A,0,none⟩) (L+1) C)) ps pa/\base<=(w2.setCell ⟨d,po,none⟩ (af (some ⟨A,0,none⟩) (L+1) C)).heap.size:=by
 have k:A≠d:=by
  rintro rfl;rcases h with a|a
  ·exact g a
  ·omega
 have a:((w.alloc o).alloc E).heap.size=w.heap.size+2:=by simp
 have q:=c.size;have e:=bJ w2 d po (af (some ⟨A,0,none⟩) (L+1) C);have l:co (λb=>b=d\/tv.ownBlock=some b) w (w2.setCell ⟨d,po,none⟩ (af (some ⟨A,0,none⟩) (L+1) C)):=by
  refine⟨?_,?_,?_,?_,?_⟩
  ·exact c.os
  ·exact c.tape
  ·exact c.output
  ·have:=e.size;omega
  ·intro b i f;simp only[not_or]at f;exact(e.block b (by omega) f.1).trans (((c.block b (by omega) (λa=>f.2 a.symm)).trans ((dC (w.alloc o) E none).block b (by simp;omega) (by simp))).trans ((dC w o none).block b i (by simp)))
 refine⟨qn m (row:=some d) ⟨rfl,rfl,rfl,e.size,λb j g=>e.block b j (λa=>g (by rw[a]))⟩ (am ?_),n _ l,by have:=e.size;omega⟩;simp only[Value.ownBlock];exact λa=>k (aJ a)
theorem J8{v0 v1:az}(x:d<w.heap.size)(t:w.ownsRow base 184 2 tv L xs)(s:tv.ownBlock≠some d)(h:((w.alloc (.cells #[v0,v1] 184)).alloc E).grownBy w2 tv.ownBlock)(g:tv.ownBlock=some A\/A=w.heap.size+2)(o:(w2.setCell ⟨d,po,none⟩ (af (some ⟨A,0,none⟩) G C)).grownBy w4 (Value.slice (some ⟨A,0,none⟩) G C).ownBlock)(m:w2.cell? ⟨d,po,none⟩=some j)(n:w2.frozen? ⟨d,po,none⟩=false):(w4.cell? ⟨w.heap.size,0,none⟩=some v0/\w4.cell? ⟨w.heap.size,1,none⟩=some v1)/\(w4.frozen? ⟨w.heap.size,0,none⟩=false/\w4.frozen? ⟨w.heap.size,1,none⟩=false)/\w4.cell? ⟨d,po,none⟩=some (af (some ⟨A,0,none⟩) G C)/\w4.frozen? ⟨d,po,none⟩=false:=by
 have i:∀b,tv.ownBlock=some b->b<w.heap.size:=λb c=>(t.lt b c).2;have c:((w.alloc (.cells #[v0,v1] 184)).alloc E).heap.size=w.heap.size+2:=by simp
 have v:=h.size;have l:=bJ w2 d po (af (some ⟨A,0,none⟩) G C);have y:=l.size;have q:A≠w.heap.size:=by
  rintro rfl;rcases g with c|c
  ·have:=i _ c;omega
  ·omega
 have p:A≠d:=by
  rintro rfl;rcases g with c|c
  ·exact s c
  ·omega
 have f:∀b,b<w2.heap.size->b≠A->w4.heap[b]?=(w2.setCell ⟨d,po,none⟩ (af (some ⟨A,0,none⟩) G C)).heap[b]? :=λb u r=>o.block b (by omega) (λc=>r (aJ c));have e:w4.heap[w.heap.size]?=some (.cells #[v0,v1] 184):=by
  refine(f _ (by omega) (λc=>q c.symm)).trans ((l.block _ (by omega) (by omega)).trans ((h.block _ (by omega) (λc=>by have:=i _ c.symm;omega)).trans (((dC (w.alloc (.cells #[v0,v1] 184)) E none).block _ (by simp) (by simp)).trans (aL w _))))
 have k:=f d (by omega) (λc=>p c.symm);refine⟨⟨by simp[World.cell?,e],by simp[World.cell?,e]⟩,⟨by simp[World.frozen?,e],by simp[World.frozen?,e]⟩,?_,?_⟩
 ·rw[bN k po];simp[go_sem,m]
 ·rw[jH (a:=⟨d,po,none⟩) k];simp[go_sem,n]
theorem LY(w:ah)(q o:Nat)(a v:az):((w.setCell ⟨q,o,none⟩ a).setCell ⟨q,o,none⟩ v).heap[q]?=(w.setCell ⟨q,o,none⟩ v).heap[q]? :=by
 simp only[World.setCell,bS,cD];cases w.heap[q]? with
 | none=>rfl
 | some b=>cases b<;>simp
theorem zg(a:w'.heap[q]?=w.heap[q]?)(o:Nat)(v:az):(w'.setCell ⟨q,o,none⟩ v).heap[q]?=(w.setCell ⟨q,o,none⟩ v).heap[q]? :=by
 simp only[World.setCell,bS,cD,a]
theorem MK{e:Nat}{o:Obj}(R:d<w.heap.size)(S:w.ownsRow base 184 2 tv ws.length (bA ws))(x:tv.ownBlock≠some d)(h:((w.alloc E).alloc o).grownBy w2 tv.ownBlock)(l:tv.ownBlock=some A\/A=w.heap.size+2)(Q:w4.ownsRow base 184 2 (af (some ⟨G,0,none⟩) (ws.length+1+ps.length) e) (ws.length+1+ps.length) (bA ws++qG (0,(ps.length:Int))++bA ps))(i:(w2.setCell ⟨d,po,none⟩ (af (some ⟨A,0,none⟩) (ws.length+1) C)).grownBy w4 (Value.slice (some ⟨A,0,none⟩) (ws.length+1) C).ownBlock)(M:(Value.slice (some ⟨G,0,none⟩) (ws.length+1+ps.length) e).ownBlock=(Value.slice (some ⟨A,0,none⟩) (ws.length+1) C).ownBlock\/(Value.slice (some ⟨G,0,none⟩) (ws.length+1+ps.length) e).ownBlock=some (w2.setCell ⟨d,po,none⟩ (af (some ⟨A,0,none⟩) (ws.length+1) C)).heap.size):Oj base d po tv ws ps w (((w4.setCell ⟨d,po,none⟩ (af (some ⟨G,0,none⟩) (ws.length+1+ps.length) e)).setCell ⟨w.heap.size,0,none⟩ j).setCell ⟨w.heap.size,1,none⟩ H) (af (some ⟨G,0,none⟩) (ws.length+1+ps.length) e):=by
 have P:∀b,tv.ownBlock=some b->b<w.heap.size:=λb a=>(S.lt b a).2;have a:((w.alloc E).alloc o).heap.size=w.heap.size+2:=by simp
 have aa:=h.size;have y:=bJ w2 d po (af (some ⟨A,0,none⟩) (ws.length+1) C);have ad:=y.size;have Z:=i.size;have ab:A≠w.heap.size:=by
  rintro rfl;rcases l with a|a
  ·have:=P _ a;omega
  ·omega
 have O:A≠d:=by
  rintro rfl;rcases l with a|a
  ·exact x a
  ·omega
 have J:G=A\/w.heap.size+2<=G:=by
  rcases M with k|k
  ·exact ak (by simpa [Value.ownBlock]using k)
  ·have X:G=(w2.setCell ⟨d,po,none⟩ (af (some ⟨A,0,none⟩) (ws.length+1) C)).heap.size:=by
     simp only[Value.ownBlock]at k;exact aJ k
   exact am (by omega)
 have L:G≠w.heap.size:=by omega
 have K:G≠d:=by omega
 have s:∀b,b<w.heap.size->tv.ownBlock≠some b->w2.heap[b]?=w.heap[b]? :=λb f c=>((h.block b (by omega) (λa=>c a.symm)).trans ((dC (w.alloc E) o none).block b (by simp;omega) (by simp))).trans ((dC w E none).block b f (by simp));have t:∀b,b<w2.heap.size->b≠A->w4.heap[b]?=(w2.setCell ⟨d,po,none⟩ (af (some ⟨A,0,none⟩) (ws.length+1) C)).heap[b]? :=λb f c=>i.block b (by omega) (λa=>c (aJ a));have n:=bJ w4 d po (af (some ⟨G,0,none⟩) (ws.length+1+ps.length) e);have z:=bJ (w4.setCell ⟨d,po,none⟩ (af (some ⟨G,0,none⟩) (ws.length+1+ps.length) e)) w.heap.size 0 j;have B:=bJ ((w4.setCell ⟨d,po,none⟩ (af (some ⟨G,0,none⟩) (ws.length+1+ps.length) e)).setCell ⟨w.heap.size,0,none⟩ j) w.heap.size 1 H;have ae:=n.size;have ag:=z.size;have ai:=B.size;have m:∀b,b<w4.heap.size->b≠w.heap.size->(((w4.setCell ⟨d,po,none⟩ (af (some ⟨G,0,none⟩) (ws.length+1+ps.length) e)).setCell ⟨w.heap.size,0,none⟩ j).setCell ⟨w.heap.size,1,none⟩ H).heap[b]?=(w4.setCell ⟨d,po,none⟩ (af (some ⟨G,0,none⟩) (ws.length+1+ps.length) e)).heap[b]? :=λb f c=>(B.block b (by omega) c).trans (z.block b (by omega) c);refine⟨?_,?_,⟨?_,?_,?_,?_,?_⟩,?_⟩
 ·have I:bA (ws++(0,(ps.length:Int))::ps)=bA ws++qG (0,(ps.length:Int))++bA ps:=by simp[bA]
  rw[I];obtain⟨V,p⟩:=Q;refine⟨V,?_⟩;rcases p with⟨p,_⟩|⟨Y,cap,D,U,f,u,T⟩
  ·simp at p
  ·injection U with g W F;injection g with g;injection g with g _;subst g F;have v:=(aS.1 u).1;exact am ⟨G,e,D,rfl,f,(m G v L).trans ((n.block G v K).trans u),T⟩
 ·refine(m d (by omega) (by omega)).trans ((zg (t d (by omega) (λa=>O a.symm)) po _).trans ((LY w2 d po _ _).trans (zg (s d R x) po _)))
 ·exact i.os.trans h.os
 ·exact i.tape.trans h.tape
 ·exact i.output.trans h.output
 ·omega
 ·intro b f c;simp only[not_or]at c;have N:b≠A:=by
   rintro rfl;rcases l with a|a
   ·exact c.2 a
   ·omega
  exact(m b (by omega) (by omega)).trans ((n.block b (by omega) c.1).trans ((t b (by omega) N).trans ((y.block b (by omega) c.1).trans (s b f c.2))))
 ·intro b r;simp only[Value.ownBlock]at r;obtain rfl:=aJ r;rcases J with a|a
  ·rw[a];rcases l with q|q
   ·exact ak q
   ·exact am (by omega)
  ·exact am (by omega)
theorem Bp(base a po:Nat)(tv:az)(J:ay)(K L:Nat)(ws ps:List Wd)(m pc:Nat)(pa:ay)(w:ah)(F:tv=af J L K)(z:Hid (ws.length=L))(r:Hid (ps.length=m))(S:L<=100000)(T:m<=1000)(C:base<=w.heap.size)(c0:w.cell? ⟨a,po,none⟩=some tv)(f0:w.frozen? ⟨a,po,none⟩=false)(h:a<w.heap.size)(g:Hid (tv.ownBlock≠some a))(k:Hid (w.ownsRow base 184 2 tv L (bA ws)))(A:Hid (∀w1,co (λb=>b=a\/tv.ownBlock=some b) w w1->fB w1 ps pa)):au 176 #[.pointer (some ⟨a,po,none⟩),af pa m pc] w λe w'=>e=aw (.agg #[ae 4,ae L])/\∃M,Hid (Oj base a po tv ws ps w w' M):=by
 subst F;obtain⟨G,hit,u,x,y⟩:=bT lV;have d:=av (⟨hit,u,x,y⟩:_/\_/\_/\_);clear hit u x y;go_enter func176,ntmps176
 go_wp2_with (first
  | (at_builtin;refine wpList_append_lies _ rfl _ _ 188 rfl base 184 G _ 2 16 underlying188 d.1 d.2.1 d.2.2.1 d.2.2.2 rfl (by decide) _ L _ rfl ((k.alloc _).alloc _) ⟨w.heap.size+1,0,none⟩ 1 1 (qG (0,(m:Int))) rfl rfl (by have:=Ml (w.alloc (.cells #[ae 0,ae 0] 184)) (0,(m:Int));simpa using this) (Og _) (by decide) (by unfold maxLen;omega) (by omega) (by simp;omega) (w.heap.size+2) (by simp) ?_;intro Q N X p f l t;have c:=av (⟨p,f,l,t⟩:_/\_/\_/\_);obtain⟨B,f2,U⟩:=G3 h g f c0 f0;have i:=av (ML h C g p f l po A);clear p f l t)
  | (at_builtin;refine qu rfl _ _ rfl (base:=base) (n:=L+1) rfl rfl i.1 i.2.1 r (by omega) i.2.2 ?_;intro W Y q o s;obtain⟨R,O,rfl,_,_⟩:=q.form (by omega);have j:=av (⟨q,o,s⟩:_/\_/\_);obtain⟨⟨H,I⟩,V,P,f4⟩:=J8 h k g c.2.1 c.2.2.1 o B f2;clear q o s))
 have D:=z.out;have E:=r.out;subst D E;exact aE (v:=.agg #[ae 4,ae ws.length]) (by simp[results,results176,go_sem,H,I]) rfl ⟨rfl,_,MK h k g c.2.1 c.2.2.1 j.1 j.2.1 j.2.2⟩
def OQ(room:Int)(w:ah)(e:Ending)(w':ah):Prop:=
    (¬(0<=room/\room<=1000)->e=aw (ax #[.pointer none,ae 1])/\w'=w)/\
    (0<=room/\room<=1000->e=aw (ax #[aF w.heap.size,ae 0])/\HB (cR.own w.heap.size) room (af none 0 0) (af none 0 0) (.map none) w'/\w'.heap.size=w.heap.size+1/\ap w w')
theorem ND(room:Int)(w:ah):au 122 #[ae room] w (OQ room w):=by
 by_cases a:room<0
 ·have b:decide (room<0)=true:=by simpa using a
  go_enter func122,ntmps122;go_wp2_with fail
  go_ret2
  exact⟨λ_=>⟨rfl,rfl⟩,λc=>by omega⟩
 ·by_cases d:1000<room
  ·have b:decide (room<0)=false:=by simpa using a
   have e:decide (1000<room)=true:=by simpa using d
   go_enter func122,ntmps122;go_wp2_with fail
   go_ret2
   exact⟨λ_=>⟨rfl,rfl⟩,λc=>by omega⟩
  ·have b:decide (room<0)=false:=by simpa using a
   have e:decide (1000<room)=false:=by simpa using d
   go_enter func122,ntmps122;go_wp2_with fail
   go_ret2
   exact⟨λc=>by omega,λ_=>⟨rfl,⟨⟨rfl,ak rfl⟩,aL w _⟩,by simp,aW _ _⟩⟩
def gu(ws:List Wd)(i:Int):Bool:=decide (0<=i) && match ws[i.toNat]? with
 | some x=>x.1==0
 | none=>false
theorem jw(d:w.ownsRow base 184 2 (af (some ⟨g,0,none⟩) L c) L (bA ws))(k:Nat)(x:Wd)(b:ws[k]?=some x):ai w g (k*2) (ae x.1)/\ai w g (k*2+1) (ae x.2):=by
 have a:=d.cells (g:=g) rfl;refine⟨?_,?_⟩
 ·have:=a (k*2+0) (ae x.1) (by rw[jv ws k x b 0 (by omega)];rfl);rw[fF]at this;exact this
 ·have:=a (k*2+1) (ae x.2) (by rw[jv ws k x b 1 (by omega)];rfl);rw[fF]at this;exact this
theorem DY(base:Nat)(l:ay)(L m:Nat)(ws:List Wd)(i:Int)(w:ah)(d:Hid (ws.length=L))(q:L<=100000)(f:Hid (w.ownsRow base 184 2 (af l L m) L (bA ws))):au 215 #[af l L m,ae i] w λe w'=>e=aw (.bool (gu ws i))/\w'=w:=by
 by_cases h:0<=i
 ·obtain⟨k,rfl⟩:∃k:Nat,i=k:=⟨i.toNat,by omega⟩;by_cases o:k<L
  ·obtain⟨a,b⟩:∃a,ws[k]?=some a:=⟨ws[k]'(by rw[d.out];exact o),aV _⟩;obtain⟨p,c,j,_,_⟩:=f.out.form (by omega);simp at j;obtain⟨rfl,rfl⟩:=j;obtain⟨t,u⟩:=jw f k a b;have HB:Hid (gu ws k=(a.1==0)):=by simp[Hid,gu,b]
   have g:decide ((0:Int)<=(k:Int))=true:=by simp
   have n:decide ((k:Int)<(L:Int))=true:=by simp;omega
   have r:(0:Int)<=(k:Int):=by omega
   have s:(k:Int)<(L:Int):=by omega
   clear b;go_enter func215,ntmps215;go_wp2_with fail
   go_ret
   exact⟨ge HB.symm,rfl⟩
  ·have HB:Hid (gu ws k=false):=by
     have:ws[k]?=none:=fu (by rw[d.out];omega);simp[Hid,gu,this]
   have g:decide ((0:Int)<=(k:Int))=true:=by simp
   have n:decide ((k:Int)<(L:Int))=false:=by simp;omega
   go_enter func215,ntmps215;go_wp2_with fail
   go_ret
   exact⟨ge HB.symm,rfl⟩
 ·have HB:Hid (gu ws i=false):=by simp[Hid,gu,h]
  have g:decide (0<=i)=false:=by simpa using h
  go_enter func215,ntmps215;go_wp2_with fail
  go_ret
  exact⟨ge HB.symm,rfl⟩
def wb(L:Nat)(i:Int):Bool:=decide (0<=i) && decide (i<L)
theorem Nk(c:cR)(room:Int)(tv:az)(g:ay)(L h:Nat)(mv:az)(i:Int)(w:ah)(d:Hid (HB c room tv (af g L h) mv w)):au 214 #[.pointer (some ⟨c.b,c.o+2,none⟩),ae i] w λe w'=>e=aw (.bool (wb L i))/\w'=w:=by
 obtain⟨⟨j,k,l,m⟩,n⟩:=d.cells;by_cases a:0<=i
 ·have HB:Hid (wb L i=decide (i<L)):=by simp[Hid,wb,a]
  have f:decide (0<=i)=true:=by simpa using a
  go_enter func214,ntmps214;go_wp2_with fail
  go_ret
  exact⟨ge HB.symm,rfl⟩
 ·have HB:Hid (wb L i=false):=by simp[Hid,wb,a]
  have f:decide (0<=i)=false:=by simpa using a
  go_enter func214,ntmps214;go_wp2_with fail
  go_ret
  exact⟨ge HB.symm,rfl⟩
theorem Pz(l:bm)(k:Nat)(s:aq)(a:l[k]?=some s):(strCells l)[k]?=some (ag s):=by simp[strCells,a]
theorem ER(base:Nat)(a:cR)(room:Int)(tv lv mv:az)(nm:bm)(i:Nat)(s:aq)(w:ah)(h:Hid (HB a room tv lv mv w))(d:Hid (w.ownsRow base 9 1 lv nm.length (strCells nm)))(f:Hid (nm[i]?=some s))(r:nm.length<=100000)(l:s.size<=2048):au 216 #[.pointer (some ⟨a.b,a.o+2,none⟩),ae i] w λe w'=>e=aw (ag s)/\ap w w':=by
 have x:i<nm.length:=(bj.1 f).1;obtain⟨g,c,rfl,_,_⟩:=d.out.form (by omega);have z:ai w g i (ag s):=by
  have:=d.cells (g:=g) rfl i (ag s) (Pz nm i s f);rw[fF]at this;exact this
 obtain⟨⟨m,n,p,q⟩,t⟩:=h.cells;generalize nm.length=j at*;have u:(0:Int)<=(i:Int):=by omega
 have v:(i:Int)<(j:Int):=by omega
 go_enter func216,ntmps216;go_wp2_with fail;refine(ew s _ l).mono ?_;rintro e y ⟨rfl,k⟩;go_wp2_with fail
 go_ret
 exact⟨rfl,k⟩
theorem Cp(a:cR)(room n:Int)(d:ay)(L f:Nat)(lv mv:az)(w:ah)(k:L<=100000)(p:0<=room)(m:room<=1000)(c:Hid (HB a room (af d L f) lv mv w)):au 151 #[.pointer (some ⟨a.b,a.o,none⟩),ae n] w λe w'=>e=aw (.bool (decide (n<=room-L)))/\ap w w':=by
 obtain⟨⟨g,h,i,j⟩,l⟩:=c.cells;go_enter func151,ntmps151;go_wp2_with fail
 go_quiet (fail)
 go_wp2_with fail
 go_ret
 exact⟨rfl,⟨rfl,rfl,rfl,aA _,λ_ _=>rfl⟩⟩
theorem uz(ws:List Wd)(k n j:Nat)(g:j<n*2):(bA ((ws.drop k).take n))[j]?=(bA ws)[k*2+j]? :=by
 by_cases f:k+j / 2<ws.length
 ·obtain⟨a,b⟩:∃a,ws[k+j / 2]?=some a:=⟨_,aV f⟩;have e:((ws.drop k).take n)[j / 2]?=some a:=by
   rw[tW (by omega),jy];exact b
  have c:j=j / 2*2+j % 2:=by omega
  have d:k*2+j=(k+j / 2)*2+j % 2:=by omega
  rw[d,jv ws (k+j / 2) a b (j % 2) (by omega)]
  conv=>lhs;rw[c]
  rw[jv _ (j / 2) a e (j % 2) (by omega)]
 ·rw[fu (l:=bA ws) (by rw[cQ];omega),fu (by rw[cQ,du,eV];omega)]
def MF(ws:List Wd)(k n g:Nat)(w:ah)(e:Ending)(w':ah):Prop:=w'=w/\∃pa pc,e=aw (af (some pa) n pc)/\pa.block=g/\fB w ((ws.drop (k+1)).take n) (some pa)/\∃o,pa=⟨g,o,none⟩
theorem NU{ty:TypeId}(a:w.ownsRow base ty sz (af (some ⟨g,0,none⟩) L c) L xs):L<=c/\c<=maxLen:=by
 rcases a.2 with⟨a,_⟩|⟨f,cap,e,a,_,_,b,d,_⟩
 ·simp at a
 ·injection a with _ _ a;subst a;exact⟨b,d⟩
theorem yP(base:Nat)(g L b k n:Nat)(ws:List Wd)(w:ah)(r:L<=100000)(c:Hid (w.ownsRow base 184 2 (af (some ⟨g,0,none⟩) L b) L (bA ws)))(p:Hid (ws[k]?=some (0,(n:Int))))(s:k+1+n<=L):au 218 #[af (some ⟨g,0,none⟩) L b,ae k] w (MF ws k n g w):=by
 obtain⟨v,x⟩:=jw c k _ p;obtain⟨u,f⟩:=NU c;have e:Hid (∀o,(n=0\/o=(k+1)*2)->fB w ((ws.drop (k+1)).take n) (some ⟨g,o,none⟩)):=by
  rintro o (rfl|rfl)
  ·exact ak (by simp)
  ·refine am ⟨_,rfl,λa q d=>?_⟩;have l:a<n*2:=by
    have:=(bj.1 d).1;rw[cQ,du]at this;omega
   rw[uz ws (k+1) n a l]at d;have:=c.cells (g:=g) rfl _ q d;rw[fF]at this;have h:(⟨g,(k+1)*2,none⟩:Addr).add a=⟨g,(k+1)*2+a,none⟩:=by
    unfold Addr.add;by_cases i:a=0<;>simp[i]
   rw[h];exact this
 have t:(b:Int)<=9223372036854775807:=by unfold maxLen at f;omega
 clear f;by_cases j:b=k+1
 ·subst j;have m:n=0:=by omega
  subst m;go_enter func218,ntmps218;go_wp2_with fail
  go_ret
  exact⟨rfl,_,_,rfl,rfl,e _ (by simp),_,rfl⟩
 ·go_enter func218,ntmps218;go_wp2_with fail
  go_ret
  exact⟨rfl,_,_,rfl,rfl,e _ (am rfl),_,rfl⟩
def P8(s t:aq):Bool:=t.data==s.data
theorem pK(s t:aq):P8 s t=true ↔ t=s:=by
 cases s;cases t;simp[P8]
def e9(nm:bm)(s:aq):List aq:=if nm.any (P8 s)then nm else nm++ [s]
def lZ(nm:bm)(s:aq):Nat:=nm.findIdx (P8 s)
theorem AC(nm:bm)(s:aq):nm.any (P8 s)=true ↔ s∈nm:=by
 rw[List.any_eq_true];constructor
 ·rintro ⟨t,c,a⟩;rw[pK]at a;exact a▸c
 ·exact λb=>⟨s,b,(pK s s).2 rfl⟩
theorem CL{s:aq}(e:nm.Nodup)(b:nm[i]?=some s):lZ nm s=i:=by
 have f:=(bj.1 b).1;have a:lZ nm s<nm.length:=by
  unfold lZ;rw[List.findIdx_lt_length];exact⟨s,aU b,(pK s s).2 rfl⟩
 have d:nm[lZ nm s]'a=s:=(pK s _).1 (List.findIdx_getElem (w:=a));have c:nm[lZ nm s]?=nm[i]? :=by rw[b,aV a,d]
 exact(List.getElem?_inj a e).1 c
def bY{a:Type}(f:a->List Wd->List aq->Wd×List Wd×List aq):List a->List Wd->List aq->List Wd×List Wd×List aq
 | [],ws,nm=>([],ws,nm)
 | y::l,ws,nm=>((f y ws nm).1::(bY f l (f y ws nm).2.1 (f y ws nm).2.2).1,(bY f l (f y ws nm).2.1 (f y ws nm).2.2).2)
def bw:(n:Nat)->Tm n->List Wd->List aq->Wd×List Wd×List aq
 | 0,_,ws,nm=>((0,0),ws,nm)
 | n+1,x,ws,nm=>
  if x.1.1=2 then ((2,(lZ (e9 nm x.1.2.2) x.1.2.2:Int)),ws,e9 nm x.1.2.2)
  else if x.1.1=4 then
   ((4,((bY (bw n) x.2.2 ws nm).2.1.length:Int)),(bY (bw n) x.2.2 ws nm).2.1++(0,(x.2.2.length:Int))::(bY (bw n) x.2.2 ws nm).1,(bY (bw n) x.2.2 ws nm).2.2)
  else ((x.1.1,x.1.2.1),ws,nm)
theorem Iy(f:u->List Wd->List aq->Wd×List Wd×List aq)(l:List u)(y:u)(ws:List Wd)(nm:bm):bY f (l++ [y]) ws nm=((bY f l ws nm).1++ [(f y (bY f l ws nm).2.1 (bY f l ws nm).2.2).1],(f y (bY f l ws nm).2.1 (bY f l ws nm).2.2).2):=by
 induction l generalizing ws nm with
 | nil=>simp[bY]
 | cons a l ih=>simp[bY,ih]
theorem im(f:u->List Wd->List aq->Wd×List Wd×List aq)(l:List u)(ws:List Wd)(nm:bm):(bY f l ws nm).1.length=l.length:=by
 induction l generalizing ws nm with
 | nil=>simp[bY]
 | cons a l ih=>simp[bY,ih]
theorem AB(nm:bm)(s:aq):(e9 nm s).length<=nm.length+1:=by
 unfold e9;split<;>simp
theorem jg:(n:Nat)->(x:Tm n)->(ws:List Wd)->(nm:bm)->((bw n x ws nm).2.1.length:Int)=ws.length+sz n x/\(bw n x ws nm).2.2.length<=nm.length+(aI n x).length
 | 0,_,_,_=>by simp[bw,sz]
 | n+1,x,ws,nm=>by
  have key:∀(l:List (Tm n))(ws:List Wd)(nm:bm),((bY (bw n) l ws nm).2.1.length:Int)+l.length=ws.length+(l.map λy=>1+sz n y).sum/\(bY (bw n) l ws nm).2.2.length<=nm.length+(l.flatMap λy=>aI n y).length:=by
   intro l
   induction l with
   | nil=>intro ws nm;simp[bY]
   | cons y l ih=>
    intro ws nm;obtain⟨e,f⟩:=jg n y ws nm;obtain⟨g,h⟩:=ih (bw n y ws nm).2.1 (bw n y ws nm).2.2;simp only[bY,bB,dk,bM,br,bv];exact⟨by omega,by omega⟩
  obtain⟨i,j⟩:=key x.2.2 ws nm;have k:=AB nm x.1.2.2;have c:=im (bw n) x.2.2 ws nm;have d:(aI (n+1) x).length=1+(x.2.2.flatMap λy=>aI n y).length:=by simp[aI];omega
  rw[d];by_cases b:x.1.1=2
  ·have a:¬x.1.1=4:=by omega
   simp only[bw,sz,if_pos b,if_neg a];exact⟨by omega,by omega⟩
  ·by_cases a:x.1.1=4
   ·simp only[bw,sz,if_neg b,if_pos a,br,bv,c];exact⟨by omega,by omega⟩
   ·simp only[bw,sz,if_neg b,if_neg a];exact⟨by omega,by omega⟩
def ed(base:Nat)(e:cR)(room:Int)(ws:List Wd)(nm:bm)(M:aX)(w:ah):Prop:=
 ∃d a c,HB e room d a c w/\w.ownsRow base 184 2 d ws.length (bA ws)/\kM base nm a c w/\M e.b/\(∀b,d.ownBlock=some b->M b)/\(∀b,a.ownBlock=some b->M b)/\∀b,mapBlock c=some b->M b
theorem eA{S:aX}(c:w.ownsRow base e sz v n xs)(k:co S w w')(h:∀b,v.ownBlock=some b->¬S b):w'.ownsRow base e sz v n xs:=by
 refine⟨c.1,?_⟩;rcases c.2 with⟨e,g⟩|⟨a,cap,f,e,i,d,j⟩
 ·exact ak ⟨e,g⟩
 ·exact am ⟨a,cap,f,e,i,(k.block a (aS.1 d).1 (h a (by rw[e];rfl))).trans d,j⟩
theorem ed.kept{base:Nat}{d:cR}{room:Int}{ws:List Wd}{nm:bm}{M S:aX}{w w':ah}(m:ed base d room ws nm M w)(k:co S w w')(c:∀b,M b->b<w.heap.size->¬S b):ed base d room ws nm M w':=by
 obtain⟨q,o,p,e,g,f,h,i,j,l⟩:=m;refine⟨q,o,p,e.kept (k.block d.b e.lt (c d.b h e.lt)),eA g k λb a=>c b (i b a) (g.lt b a).2,?_,h,i,j,l⟩;refine f.kept k (λb a=>c b (j b a) (f.1.lt b a).2) λb a=>c b (l b a) ?_;rcases f.2.2 with⟨rfl,_⟩|⟨s,r,rfl,_,n,_⟩
 ·simp[mapBlock]at a
 ·simp only[mapBlock]at a;obtain rfl:=aJ a;exact n.lt
theorem ed.mono{M S:aX}(c:ed base h room ws nm M w)(k:∀b,M b->S b):ed base h room ws nm S w:=by
 obtain⟨o,m,n,d,e,f,g,i,j,l⟩:=c;exact⟨o,m,n,d,e,f,k _ g,λb a=>k b (i b a),λb a=>k b (j b a),λb a=>k b (l b a)⟩
def mQ(base:Nat)(a:cR)(room:Int)(ws:List Wd)(nm:bm)(M:aX)(w w':ah):Prop:=ed base a room ws nm (λb=>M b\/w.heap.size<=b) w'/\co M w w'
theorem yZ{g:TypeId}(h:w.ownsRow base e s v n xs)(i:w.ownsRow d g A j C ys)(l:e≠g):∀b,v.ownBlock=some b->j.ownBlock≠some b:=by
 intro b c f;rcases h.2 with⟨rfl,_⟩|⟨q,cap,o,rfl,_,k,_⟩
 ·simp[Value.ownBlock]at c
 ·rcases i.2 with⟨rfl,_⟩|⟨r,m,p,rfl,_,a,_⟩
  ·simp[Value.ownBlock]at f
  ·simp only[Value.ownBlock]at c f;obtain rfl:=aJ c;obtain rfl:=aJ f;rw[k]at a;injection a with a;injection a with _ a;exact l a
theorem oo{mv:az}(g:w.ownsRow base e s v n xs)(d:HB h room tv lv mv w)(f:e≠193/\e≠195):v.ownBlock≠some h.b:=λe=>by
 rcases g.2 with⟨rfl,_⟩|⟨k,cap,j,rfl,_,i,_⟩
 ·simp[Value.ownBlock]at e
 ·simp[Value.ownBlock]at e;subst e;have a:w.heap[h.b]?=_:=d.2;rw[i]at a;injection a with a;injection a with a c;rcases d.1.2 with t1|t1
  ·exact f.1 (c.trans t1)
  ·exact f.2 (c.trans t1)
theorem GI{mv:az}(g:w.ownsRow base e s v n xs)(h:kM d nm lv mv w):∀b,v.ownBlock=some b->mapBlock mv≠some b:=by
 intro b a c;rcases g.2 with⟨rfl,_⟩|⟨o,cap,m,rfl,_,i,_⟩
 ·simp[Value.ownBlock]at a
 ·rcases h.2.2 with⟨rfl,_⟩|⟨p,k,rfl,_,j,_⟩
  ·simp[mapBlock]at c
  ·simp only[Value.ownBlock,mapBlock]at a c;obtain rfl:=aJ a;obtain rfl:=aJ c;obtain⟨es,l,f,_⟩:=j;rw[i]at f;cases f
theorem uZ{mv:az}(d:kM base nm lv mv w)(c:HB h room tv j H w):mapBlock mv≠some h.b:=λe=>by
 rcases d.2.2 with⟨rfl,_⟩|⟨k,D,rfl,_,g,_⟩
 ·simp[mapBlock]at e
 ·simp only[mapBlock]at e;obtain rfl:=aJ e;obtain⟨es,i,f,_⟩:=g;have a:w.heap[h.b]?=_:=c.2;rw[f]at a;cases a
theorem Np{b:bm}{s:aq}(f:b.Nodup)(e:b[i]?=some s)(a:b=nm\/b=nm++ [s]):b=e9 nm s/\i=lZ (e9 nm s) s:=by
 have c:b=e9 nm s:=by
  unfold e9;by_cases d:s∈nm
  ·rw[if_pos ((AC nm s).2 d)];rcases a with a|a
   ·exact a
   ·rw[a,fM]at f;exact absurd rfl (f.2.2 s d s (by simp))
  ·rw[if_neg (λc=>d ((AC nm s).1 c))];rcases a with a|a
   ·rw[a]at e;exact absurd (aU e) d
   ·exact a
 refine⟨c,?_⟩;rw[<-c];exact(CL f e).symm
theorem NF(base:Nat)(a:cR)(room:Int)(ws:List Wd)(nm:bm)(M:aX)(s:aq)(w:ah)(r:ed base a room ws nm M w)(v:base<=w.heap.size)(u:nm.length<=100000)(x:s.size<=2048):au 175 #[.pointer (some ⟨a.b,a.o+2,none⟩),ag s] w λe w'=>e=aw (ae (lZ (e9 nm s) s:Int))/\Hid (mQ base a room ws (e9 nm s) M w w'):=by
 obtain⟨m,D,F,g,c,f,h,t,i,j⟩:=r;refine(EU base a room m D F nm s w g f v u x).mono ?_;rintro e w' ⟨H,rfl,I,E,G,n⟩;obtain⟨y,z,A,k,l,B,C⟩:=n;obtain⟨p,q⟩:=Np k.2.1 y z;subst p;refine⟨by rw[q],⟨m,E,G,A,eA c l ?_,k,ak h,λb e=>ak (t b e),?_,?_⟩,l.mono ?_⟩
 ·rintro b e (rfl|d|d)
  ·exact oo c g (by decide) e
  ·exact yZ c f.1 (by decide) b e d
  ·exact GI c f b e d
 ·intro b e;rcases B b e with e|e
  ·exact ak (i b e)
  ·exact am e
 ·intro b e;rcases C b e with e|e
  ·exact ak (j b e)
  ·exact am e
 ·rintro b (rfl|e|e)
  ·exact h
  ·exact i b e
  ·exact j b e
theorem QJ(base:Nat)(d:cR)(room:Int)(ws:List Wd)(nm:bm)(M:aX)(ps:List Wd)(m pc:Nat)(pa:ay)(w:ah)(x:ed base d room ws nm M w)(C:base<=w.heap.size)(A:ws.length<=100000)(E:ps.length=m)(B:m<=1000)(t:∀w1,co M w w1->fB w1 ps pa):au 176 #[.pointer (some ⟨d.b,d.o+1,none⟩),af pa m pc] w λe w'=>e=aw (.agg #[ae 4,ae ws.length])/\Hid (mQ base d room (ws++(0,(m:Int))::ps) nm M w w'):=by
 obtain⟨q,J,K,a,f,g,i,j,y,z⟩:=x;obtain⟨⟨L,u,N,O⟩,D⟩:=a.cells;obtain⟨l,n,F⟩:∃l n,q=af l ws.length n:=by
  rcases f.2 with⟨e,v⟩|⟨Q,c,P,e,_⟩
  ·exact⟨none,0,by rw[e,v]⟩
  ·exact⟨_,c,e⟩
 subst E;refine(Bp base d.b (d.o+1) q l n ws.length ws ps ps.length pc pa w F rfl rfl A B C u (D _) a.lt (oo f a (by decide)) f ?_).mono ?_
 ·intro w1 k;refine t w1 (k.mono ?_);rintro b (rfl|e)
  ·exact i
  ·exact j b e
 ·rintro e w' ⟨rfl,r,s⟩;obtain⟨G,H,p,I⟩:=s;refine⟨rfl,⟨r,J,K,(a.set1 r).kept H,?_,g.kept p ?_ ?_,ak i,?_,λb e=>ak (y b e),λb e=>ak (z b e)⟩,p.mono ?_⟩
  ·have e:(ws++(0,(ps.length:Int))::ps).length=ws.length+1+ps.length:=by simp;omega
   rw[e];exact G
  ·rintro b e (rfl|h)
   ·exact oo g.1 a (by decide) e
   ·exact yZ f g.1 (by decide) b h e
  ·rintro b e (rfl|h)
   ·exact uZ g a e
   ·exact GI f g b h e
  ·intro b e;rcases I b e with e|e
   ·exact ak (j b e)
   ·exact am e
  ·rintro b (rfl|e)
   ·exact i
   ·exact j b e
theorem ed.inside{M:aX}(f:ed base h room ws nm M w):ed base h room ws nm (λb=>M b/\b<w.heap.size) w:=by
 obtain⟨o,m,n,d,e,c,g,i,j,k⟩:=f;refine⟨o,m,n,d,e,c,⟨g,d.lt⟩,λb a=>⟨i b a,(e.lt b a).2⟩,λb a=>⟨j b a,(c.1.lt b a).2⟩,λb a=>⟨k b a,?_⟩⟩;rcases c.2.2 with⟨rfl,_⟩|⟨q,p,rfl,_,l,_⟩
 ·simp[mapBlock]at a
 ·simp only[mapBlock]at a;obtain rfl:=aJ a;exact l.lt
theorem ed.later{M:aX}(a:ed base h room ws nm M w)(c:ap w wA):ed base h room ws nm (λb=>M b/\b<w.heap.size) wA:=
 a.inside.kept (bC c (λ_=>False)) λ_ _ _ a=>a
theorem Cu{M:aX}(a:mQ base h room ws nm (λb=>M b/\b<w.heap.size) wA w2)(i:ap w wA)(n:w.heap.size+2<=wA.heap.size)(v0 v1:az):mQ base h room ws nm M w ((w2.setCell ⟨w.heap.size+1,0,none⟩ v0).setCell ⟨w.heap.size+1,1,none⟩ v1):=by
 obtain⟨e,f⟩:=a;have k:=bJ w2 (w.heap.size+1) 0 v0;have l:=bJ (w2.setCell ⟨w.heap.size+1,0,none⟩ v0) (w.heap.size+1) 1 v1;have d:=k.trans l (λb _ a=>a);refine⟨(e.kept d ?_).mono ?_,?_⟩
 ·rintro b (⟨_,c⟩|c) _ m
  ·omega
  ·omega
 ·rintro b (⟨j,_⟩|c)
  ·exact ak j
  ·exact am (by omega)
 ·have g:co (λb=>(M b/\b<w.heap.size)\/b=w.heap.size+1) wA _:=(f.mono (λb a=>ak a)).trans d (λb _ a=>am a);refine(bC i M).trans g ?_;rintro b c (a|a)
  ·exact a.1
  ·omega
theorem wl{M:aX}(d:mQ base h room ws nm (λb=>M b/\b<w.heap.size) wA w2):∀b,w.heap.size<=b->b<wA.heap.size->∀o,w2.cell? ⟨b,o,none⟩=wA.cell? ⟨b,o,none⟩/\w2.frozen? ⟨b,o,none⟩=wA.frozen? ⟨b,o,none⟩:=by
 intro b f e o;have c:=d.2.block b e (λd=>by omega);exact⟨bN c o,jH (a:=⟨b,o,none⟩) c⟩
theorem K9(f:cR)(k d:Int)(s:aq)(a:ay)(l c:Nat)(w:ah)(g:¬k=2)(h:¬k=4):au 152 #[.pointer (some ⟨f.b,f.o,none⟩),aB k d s a l c] w λe w'=>e=aw (.agg #[ae k,ae d])/\ap w w':=by
 have i:(k==2)=false:=by simpa using g
 have j:(k==4)=false:=by simpa using h
 go_enter func152,ntmps152;go_wp2_with fail;exact aE (v:=.agg #[ae k,ae d]) (by simp[results,results152,go_sem]) rfl ⟨rfl,by go_grown⟩
theorem K8(base:Nat)(f:cR)(room:Int)(ws:List Wd)(nm:bm)(M:aX)(p:Int)(s:aq)(a:ay)(l c:Nat)(w:ah)(t:Hid (ed base f room ws nm M w))(z:base<=w.heap.size)(u:nm.length<=100000)(x:s.size<=2048):au 152 #[.pointer (some ⟨f.b,f.o,none⟩),aB 2 p s a l c] w λe w'=>e=aw (.agg #[ae 2,ae (lZ (e9 nm s) s:Int)])/\Hid (mQ base f room ws (e9 nm s) M w w'):=by
 generalize n:lZ (e9 nm s) s=j;go_enter func152,ntmps152;go_wp2_with fail;generalize i:(w.alloc (Obj.cells #[Value.int IntKind.i64 2,Value.int IntKind.i64 p,Value.string s,Value.slice a l c] 54)).alloc (Obj.cells #[Value.int IntKind.i64 0,Value.int IntKind.i64 0] 184)=wA;have d:Hid (ap w wA.drew/\wA.drew.heap.size=w.heap.size+2):=by
  subst i;exact⟨((aW _ _).alloc (by simp) _).drew,by simp[World.drew]⟩
 have y:wA.cell? ⟨w.heap.size,2,none⟩=some (ag s):=by subst i;simp[go_sem]
 have h:Hid ((wA.cell? ⟨w.heap.size+1,0,none⟩=some (ae 0)/\wA.cell? ⟨w.heap.size+1,1,none⟩=some (ae 0))/\wA.frozen? ⟨w.heap.size+1,0,none⟩=false/\wA.frozen? ⟨w.heap.size+1,1,none⟩=false):=by subst i;simp[Hid,go_sem]
 have q:Hid (au 175 #[.pointer (some ⟨f.b,f.o+2,none⟩),ag s] wA.drew λe w'=>e=aw (ae j)/\Hid (mQ base f room ws (e9 nm s) (λb=>M b/\b<w.heap.size) wA.drew w')):=by
  have m:=NF base f room ws nm _ s wA.drew (t.later d.1) (by have:=d.2;omega) u x;rw[n]at m;exact m
 clear i n;go_region_held3 (λw'=>w'.cell? ⟨w.heap.size,2,none⟩=some (ag s)) (go_keep) ((go_at_call 175;refine q.mono ?_;rintro e B ⟨rfl,k⟩;have g:=av (wl k);have A:=λo=>(g w.heap.size (aA _) (by have:=d.2;omega) o).1;have d0:=(g (w.heap.size+1) (by omega) (by have:=d.2;omega) 0).1.trans h.1.1;have d1:=(g (w.heap.size+1) (by omega) (by have:=d.2;omega) 1).1.trans h.1.2;have f0:=(g (w.heap.size+1) (by omega) (by have:=d.2;omega) 0).2.trans h.2.1;have f1:=(g (w.heap.size+1) (by omega) (by have:=d.2;omega) 1).2.trans h.2.2));have r:=av (Cu k d.1 (cT d.2.symm) (ae 2) (ae j));go_wp2_with fail;exact aE (v:=.agg #[ae 2,ae j]) (by simp[results,results152,go_sem,d0,d1]) rfl ⟨rfl,r⟩
def JT(x:Wd):az:=.agg #[ae x.1,ae x.2]
def PR(n:Nat):Prop:=∀(x:Tm n)(base:Nat)(a:cR)(room:Int)(ws:List Wd)(nm:bm)(M:aX)(w:ah),ed base a room ws nm M w->In w.heap.size w n x->cG (λb=>¬M b) n x->base<=w.heap.size->aM ⟨n,x⟩->ws.length+2*(aI n x).length<=99000->nm.length+(aI n x).length<=99000->
 au 152 #[.pointer (some ⟨a.b,a.o,none⟩),dG n x] w λe w'=>e=aw (JT (bw n x ws nm).1)/\Hid (mQ base a room (bw n x ws nm).2.1 (bw n x ws nm).2.2 M w w')
def zI(n:Nat)(p:List (Tm n))(len base:Nat)(c:cR)(room:Int)(ws:List Wd)(nm:bm)(M:aX)(g:Nat)(w a:ah)(k:Nat)(wr:ah):Prop:=
 wr.ownsRow g 184 2 (af (some ⟨g,0,none⟩) len len) len (bA ((bY (bw n) (p.take k) ws nm).1++List.replicate (len-k) (0,0)))/\
 ed base c room (bY (bw n) (p.take k) ws nm).2.1 (bY (bw n) (p.take k) ws nm).2.2 (λb=>(M b/\b<w.heap.size)\/a.heap.size<=b) wr/\
 co (λb=>(M b/\b<w.heap.size)\/b=g) a wr
theorem wG(n:Nat):(madeCells #[ae 0,ae 0] (n*2)).toList=bA (List.replicate n (0,0)):=by
 apply nH;intro b;by_cases d:b<n*2
 ·obtain⟨k,a,e,rfl⟩:∃k a,a<2/\b=k*2+a:=⟨b / 2,b % 2,Nat.mod_lt _ (by decide),by omega⟩;have f:k<n:=by omega
  rw[jv _ k (0,0) (by simp[f]) a e];have c:(madeCells #[ae 0,ae 0] (n*2))[k*2+a]?=some ((#[ae 0,ae 0]:Array az)[(k*2+a) % 2]!):=by
   simp[madeCells,d]
  rw[nF,c,show (k*2+a) % 2=a by omega];have:a=0\/a=1:=by omega
  rcases this with rfl|rfl<;>rfl
 ·rw[fu (by simp[size_madeCells];omega),fu (by rw[cQ];simp;omega)]
theorem rJ:(l:List Wd)->(i:Nat)->(x:Wd)->i<l.length->((bA l).set (i*2) (ae x.1)).set (i*2+1) (ae x.2)=bA (l.set i x)
 | [],i,x,h=>by simp at h
 | y::l,0,x,_=>by simp[bA,qG]
 | y::l,i+1,x,h=>by
  have ih:=rJ l i x (by simpa using h);have e:bA (y::l)=qG y++bA l:=rfl;have b:bA ((y::l).set (i+1) x)=qG y++bA (l.set i x):=rfl;have a:(qG y).length=2:=rfl;rw[e,b,<-ih];rw[iM _ _ (by rw[a];omega),iM _ _ (by rw[a];omega),a];rw[show (i+1)*2-2=i*2 by omega,show (i+1)*2+1-2=i*2+1 by omega]
theorem Lb{p:List (Tm n)}{M:aX}{t0 t1 t2 t3:az}(d:ed base h room ws nm M w)(c:w0.ownsRow (w.heap.size+2) 184 2 (.slice (some ⟨((w.alloc (.cells #[t0,t1,t2,t3] 54)).alloc (.cells #[ae 0,ae 0] 184)).heap.size,0,none⟩) len len) len (madeCells (Value.agg #[ae 0,ae 0]).cells (len*2)).toList)(a:((w.alloc (.cells #[t0,t1,t2,t3] 54)).alloc (.cells #[ae 0,ae 0] 184)).grownBy w0 none):(zI n p len base h room ws nm M (w.heap.size+2) w w0 0 w0/\ap w w0/\w.heap.size+2<w0.heap.size)/\w0.cell? ⟨w.heap.size,3,none⟩=some t3/\ (w0.cell? ⟨w.heap.size+1,0,none⟩=some (ae 0)/\w0.cell? ⟨w.heap.size+1,1,none⟩=some (ae 0))/\w0.frozen? ⟨w.heap.size+1,0,none⟩=false/\w0.frozen? ⟨w.heap.size+1,1,none⟩=false:=by
 have j:((w.alloc (.cells #[t0,t1,t2,t3] 54)).alloc (.cells #[ae 0,ae 0] 184)).heap.size=w.heap.size+2:=by simp
 rw[j]at c;have m:ap w ((w.alloc (.cells #[t0,t1,t2,t3] 54)).alloc (.cells #[ae 0,ae 0] 184)):=(aW _ _).alloc (by simp) _;have f:Below (w.heap.size+2) ((w.alloc (.cells #[t0,t1,t2,t3] 54)).alloc (.cells #[ae 0,ae 0] 184)) w0:=⟨a.os,a.tape,a.output,a.size,λb e=>a.block b (by omega) (by simp)⟩;have e:=m.trans (f.mono (by omega));have g:=aC f;have i:=ib f;refine⟨⟨⟨?_,?_,co.refl _ _⟩,e,(c.lt _ rfl).2⟩,?_,⟨?_,?_⟩,?_,?_⟩
 ·simp only[List.take_zero,bY,nL,Nat.sub_zero];have k:=wG len;have l:(Value.agg #[ae 0,ae 0]).cells= #[ae 0,ae 0]:=rfl;rw[l,k]at c;exact c
 ·simp only[List.take_zero,bY];exact(d.later e).mono λb d=>ak d
 ·rw[g _ _ (by omega)];simp[go_sem]
 ·rw[g _ _ (by omega)];simp[go_sem]
 ·rw[g _ _ (by omega)];simp[go_sem]
 ·rw[i _ _ (by omega)];simp[go_sem]
 ·rw[i _ _ (by omega)];simp[go_sem]
theorem pS(b:w.ownsRow base 184 2 (af (some ⟨g,0,none⟩) L c) L (bA ws)):∀j,w.frozen? ⟨g,j,none⟩=false:=by
 intro j;rcases b.2 with⟨d,_⟩|⟨l,cap,h,f,m,e,_⟩
 ·simp at d
 ·injection f with a i k;injection a with a;injection a with a _;subst a;simp[World.frozen?,e]
theorem zI.step{p:List (Tm n)}{M:aX}{k:Nat}(H:zI n p len base h room ws nm M g w B k wr)(G:w.heap.size<=g)(I:g<B.heap.size)(K:k<len)(L:p.length=len){x:Tm n}(z:p[k]?=some x)(i:ap wr w1)(y:mQ base h room (bw n x (bY (bw n) (p.take k) ws nm).2.1 (bY (bw n) (p.take k) ws nm).2.2).2.1 (bw n x (bY (bw n) (p.take k) ws nm).2.1 (bY (bw n) (p.take k) ws nm).2.2).2.2 (λb=>((M b/\b<w.heap.size)\/B.heap.size<=b)/\b<wr.heap.size) w1 w2):zI n p len base h room ws nm M g w B (k+1) ((w2.setCell ⟨g,k*2,none⟩ (ae (bw n x (bY (bw n) (p.take k) ws nm).2.1 (bY (bw n) (p.take k) ws nm).2.2).1.1)).setCell ⟨g,k*2+1,none⟩ (ae (bw n x (bY (bw n) (p.take k) ws nm).2.1 (bY (bw n) (p.take k) ws nm).2.2).1.2))/\ (w2.cell? ⟨g,k*2,none⟩=some (ae 0)/\w2.cell? ⟨g,k*2+1,none⟩=some (ae 0))/\w2.frozen? ⟨g,k*2,none⟩=false/\w2.frozen? ⟨g,k*2+1,none⟩=false:=by
 obtain⟨l,E,m⟩:=H;obtain⟨t,o⟩:=y;have J:g<wr.heap.size:=(l.lt g rfl).2;have N:=i.size;have O:=m.size;have q:bY (bw n) (p.take (k+1)) ws nm=((bY (bw n) (p.take k) ws nm).1++ [(bw n x (bY (bw n) (p.take k) ws nm).2.1 (bY (bw n) (p.take k) ws nm).2.2).1],(bw n x (bY (bw n) (p.take k) ws nm).2.1 (bY (bw n) (p.take k) ws nm).2.2).2):=by
  rw[dL,z];exact Iy _ _ _ _ _
 have r:(bY (bw n) (p.take k) ws nm).1.length=k:=by rw[im,du];omega
 have e:w2.ownsRow g 184 2 (af (some ⟨g,0,none⟩) len len) len (bA ((bY (bw n) (p.take k) ws nm).1++List.replicate (len-k) (0,0))):=by
  refine eA (dV l i) o λb f=>?_;simp only[Value.ownBlock]at f;obtain rfl:=aJ f;omega
 generalize bY (bw n) (p.take k) ws nm=d at*;generalize bw n x d.2.1 d.2.2=c at*;have A:(d.1++List.replicate (len-k) (0,0))[k]?=some ((0,0):Wd):=by
  rw[ft (by omega),r,iu,List.getElem?_replicate];simp;omega
 have C:=bJ w2 g (k*2) (ae c.1.1);have D:=bJ (w2.setCell ⟨g,k*2,none⟩ (ae c.1.1)) g (k*2+1) (ae c.1.2);have s:=C.trans D (λb _ a=>a);refine⟨⟨?_,?_,?_⟩,jw e k (0,0) A,pS e _,pS e _⟩
 ·rw[q];have j:=jP (jP e (k*2) (ae c.1.1)) (k*2+1) (ae c.1.2);rw[rJ _ k c.1 (by simp;omega)]at j;have es:(d.1++List.replicate (len-k) ((0,0):Wd)).set k c.1=(d.1++ [c.1])++List.replicate (len-(k+1)) (0,0):=by
   rw[iM _ _ (by omega)];have:len-k=(len-(k+1))+1:=by omega
   rw[this,List.replicate_succ];simp[r]
  rw[es]at j;exact j
 ·rw[q];refine(t.kept s ?_).mono ?_
  ·rintro b (⟨a,_⟩|a) _ f<;>omega
  ·rintro b (⟨a,_⟩|a)
   ·exact a
   ·exact am (by omega)
 ·have u:co (λb=>(M b/\b<w.heap.size)\/b=g) B w1:=m.trans (bC i (λ_=>False)) (λ_ _ a=>a.elim)
  have v:co (λb=>(M b/\b<w.heap.size)\/b=g) B w2:=u.trans o (λb F a=>by
   rcases a.1 with a|a
   ·exact ak a
   ·omega)
  exact v.trans s (λb _ a=>am a)
theorem Lc{p:List (Tm n)}{M:aX}{k:Nat}(H:zI n p len base h room ws nm M g w B k wr)(s:w.heap.size<g)(t:g<B.heap.size)(f:ap w B){b o:Nat}(i:b<w.heap.size)(m:¬M b){x:Tm n}(l:eh w b o n x)(d:In w.heap.size w n x)(e:cG (λb=>¬M b) n x):eh wr b o n x/\In w.heap.size wr n x/\cG (λb=>¬(((M b/\b<w.heap.size)\/B.heap.size<=b)/\b<wr.heap.size)) n x:=by
 have j:∀a,¬M a/\a<w.heap.size->wr.heap[a]?=B.heap[a]? :=λa q=>H.2.2.block a (by omega) (by rintro (c|c);exact q.1 c.1;omega);refine⟨(l.below f i).block (j b ⟨m,i⟩),In.off j (In.offB e d) (d.below f),(In.offB e d).mono ?_⟩;rintro a ⟨r,u⟩ ⟨c|c,_⟩
 ·exact r c.1
 ·omega
theorem La{p:List (Tm n)}{M:aX}(H:zI n p len base h room ws nm M g w B len wr)(E:p.length=len)(C:g=w.heap.size+2)(D:g<B.heap.size)(l:ap w B):ed base h room (bY (bw n) p ws nm).2.1 (bY (bw n) p ws nm).2.2 (λb=>((M b/\b<w.heap.size)\/B.heap.size<=b)) wr/\(∀w1,co (λb=>((M b/\b<w.heap.size)\/B.heap.size<=b)) wr w1->fB w1 (bY (bw n) p ws nm).1 (some ⟨g,0,none⟩))/\ (∀o,wr.cell? ⟨w.heap.size+1,o,none⟩=B.cell? ⟨w.heap.size+1,o,none⟩/\wr.frozen? ⟨w.heap.size+1,o,none⟩=B.frozen? ⟨w.heap.size+1,o,none⟩)/\ ∀j i w2,mQ base h room j i (λb=>((M b/\b<w.heap.size)\/B.heap.size<=b)) wr w2-> (∀o,w2.cell? ⟨w.heap.size+1,o,none⟩=wr.cell? ⟨w.heap.size+1,o,none⟩/\w2.frozen? ⟨w.heap.size+1,o,none⟩=wr.frozen? ⟨w.heap.size+1,o,none⟩)/\ ∀v0 v1,mQ base h room j i M w ((w2.setCell ⟨w.heap.size+1,0,none⟩ v0).setCell ⟨w.heap.size+1,1,none⟩ v1):=by
 obtain⟨e,k,f⟩:=H;rw[bI (by omega)]at e k;rw[iu,nN,eF]at e;have F:=f.size;refine⟨k,λw1 v=>am ⟨_,rfl,λx A u=>?_⟩,λo=>?_,λj i w2 m=>⟨λo=>?_,λv0 v1=>?_⟩⟩
 ·have:=(eA e v (λb d=>by
    simp only[Value.ownBlock]at d;obtain rfl:=aJ d
    omega)).cells (g:=g) rfl x A u
  exact this
 ·have d:=f.block (w.heap.size+1) (by omega) (by omega);exact⟨bN d o,jH (a:=⟨w.heap.size+1,o,none⟩) d⟩
 ·have d:=m.2.block (w.heap.size+1) (by omega) (by omega);exact⟨bN d o,jH (a:=⟨w.heap.size+1,o,none⟩) d⟩
 ·obtain⟨s,t⟩:=m;have y:=bJ w2 (w.heap.size+1) 0 v0;have z:=bJ (w2.setCell ⟨w.heap.size+1,0,none⟩ v0) (w.heap.size+1) 1 v1;have r:=y.trans z (λb _ c=>c);refine⟨(s.kept r ?_).mono ?_,?_⟩
  ·rintro b (c|c) _ d<;>omega
  ·rintro b ((c|c)|c)
   ·exact ak c.1
   ·exact am (by omega)
   ·exact am (by omega)
  ·refine(((bC l M).trans f ?_).trans t ?_).trans r ?_
   ·rintro b q (c|c)
    ·exact c.1
    ·omega
   ·rintro b q (c|c)
    ·exact c.1
    ·have:=l.size;omega
   ·intro b q c;omega
theorem wu(n:Nat)(l:List (Tm n))(ws:List Wd)(nm:bm):(bY (bw n) l ws nm).2.1.length<=ws.length+2*(l.flatMap λy=>aI n y).length/\(bY (bw n) l ws nm).2.2.length<=nm.length+(l.flatMap λy=>aI n y).length:=by
 induction l generalizing ws nm with
 | nil=>simp[bY]
 | cons y l ih=>
  obtain⟨a,b⟩:=jg n y ws nm;obtain⟨d,e⟩:=ih (bw n y ws nm).2.1 (bw n y ws nm).2.2;have c:=(fJ n y).2;simp only[bY,bM,br];exact⟨by omega,by omega⟩
theorem Cw(n:Nat)(p:List (Tm n))(k:Nat)(x:Tm n)(d:p[k]?=some x):((p.take k).flatMap λy=>aI n y).length+(aI n x).length<=(p.flatMap λy=>aI n y).length:=by
 have b:=bj.1 d;obtain⟨c,rfl⟩:=b;have a:p=p.take k++p[k]::p.drop (k+1):=by
  rw[<-fq c,iN]
 conv=>rhs;rw[a]
 simp only[lD,bM,br];omega
theorem Nw(n:Nat)(ih:PR n)(base:Nat)(d:cR)(room:Int)(ws:List Wd)(nm:bm)(M:aX)(ab:Int)(s:aq)(a:ay)(len pc:Nat)(p:List (Tm n))(C:Hid (p.length=len))(w:ah)(Y:Hid (ed base d room ws nm M w))(az:len<=8)(am:base<=w.heap.size)(F:Hid (p=[]\/∃b o,a=some ⟨b,o,none⟩/\b<w.heap.size/\¬M b/\∀(i:Nat)(y:Tm n),p[i]?=some y->eh w b (o+i*4) n y/\In w.heap.size w n y/\cG (λb=>¬M b) n y))(Q:Hid (∀y∈p,aM ⟨n,y⟩))(G:Hid (ws.length+2*(p.flatMap λy=>aI n y).length<=99000))(N:Hid (nm.length+(p.flatMap λy=>aI n y).length<=99000)):au 152 #[.pointer (some ⟨d.b,d.o,none⟩),aB 4 ab s a len pc] w λe w'=>e=aw (JT (4,((bY (bw n) p ws nm).2.1.length:Int)))/\Hid (mQ base d room ((bY (bw n) p ws nm).2.1++(0,(len:Int))::(bY (bw n) p ws nm).1) (bY (bw n) p ws nm).2.2 M w w'):=by
 obtain⟨aa,hit,R,S,T⟩:=bT lV;go_enter func152,ntmps152;go_wp2_with (at_make;refine lN _ rfl _ _ 187 rfl (w.heap.size+2) 184 aa _ 2 underlying187 hit R S _ _ _ _ len rfl rfl rfl rfl (by rw[T];omega) (by unfold maxLen;omega) (by simp) ?_;intro x O J;have l:=av (Lb (p:=p) Y O J);have ak:=l.2.1;clear O J);clear hit R S T;obtain⟨c,B⟩:∃c,w.heap.size+1+1=c:=⟨_,rfl⟩;have H:Hid (zI n p len base d room ws nm M c w x 0 x):=by subst B;exact l.1.1
 have E:c<x.heap.size:=by subst B;exact l.1.2.2
 rw[B];go_loopw [28] (λi wr=>∃k:Nat,k<=len/\i=ae k/\Hid (zI n p len base d room ws nm M c w x k wr)) (λi _=>len-(intOf i).toNat)
 case atStart=>exact⟨0,by omega,rfl,H⟩
 case round=>
  clear H;obtain⟨k,ao,rfl,g⟩:=hrel;by_cases K:k<len
  ·obtain⟨f,m⟩:∃f,p[k]?=some f:=⟨p[k]'(by rw[C.out];exact K),aV _⟩;obtain⟨b,o,rfl,Z,L,P⟩:∃b o,a=some ⟨b,o,none⟩/\b<w.heap.size/\¬M b/\∀(i:Nat)(y:Tm n),p[i]?=some y->eh w b (o+i*4) n y/\In w.heap.size w n y/\cG (λb=>¬M b) n y:=by
    rcases F.out with e|e
    ·rw[e]at m;simp at m
    ·exact e
   obtain⟨U,V,W⟩:=P k f m;obtain⟨y1,y2,X⟩:=Lc g (by omega) E l.1.2.1 Z L U V W;have an:c<wr.heap.size:=(g.1.lt c rfl).2;have aF:=g.2.2.size;cases n with
   | zero=>exact y1.elim
   | succ n=>
   obtain⟨u,q⟩:∃u:Wd,Hid (∀D,ap wr D->au 152 #[.pointer (some ⟨d.b,d.o,none⟩),aB f.1.1 f.1.2.1 f.1.2.2 f.2.1.1 f.2.2.length f.2.1.2] D λe h=>e=aw (.agg #[ae u.1,ae u.2])/\
       Hid (zI (n+1) p len base d room ws nm M c w x (k+1) ((h.setCell ⟨c,k*2,none⟩ (ae u.1)).setCell ⟨c,k*2+1,none⟩ (ae u.2))/\
        (h.cell? ⟨c,k*2,none⟩=some (ae 0)/\h.cell? ⟨c,k*2+1,none⟩=some (ae 0))/\h.frozen? ⟨c,k*2,none⟩=false/\h.frozen? ⟨c,k*2+1,none⟩=false)):=by
    refine⟨(bw (n+1) f (bY (bw (n+1)) (p.take k) ws nm).2.1 (bY (bw (n+1)) (p.take k) ws nm).2.2).1,λD A=>?_⟩;have aG:=wu (n+1) (p.take k) ws nm;have aH:=Cw (n+1) p k f m;have aD:=G.out;have aA:=N.out;have aC:=A.size;refine(ih f base d room _ _ _ D (g.2.1.later A) ((y2.below (A.mono (by omega))).mono (by omega)) X (by omega) (Q f (aU m)) (by omega) (by omega)).mono ?_;rintro e h ⟨rfl,z⟩;exact⟨rfl,g.step (by omega) E K C m A z⟩
   obtain⟨ad,ag,ai,aj⟩:=y1;clear ih g F P U V W y2 X m L G N Q;generalize f.2.2.length=aJ at*;have ar:(0:Int)<=(k:Int):=by omega
   have ax:(k:Int)<(len:Int):=by omega
   have al:b<wr.heap.size:=by omega
   go_wp2_with fail;refine(q _ (aW _ _)).mono ?_;rintro e h ⟨rfl,I⟩;obtain⟨⟨d0,d1⟩,f0,f1⟩:=I.out.2;clear q ad ag ai aj;go_wp2_with fail;go_roundw
   case rel=>exact⟨k+1,by omega,by go_num,I.1⟩
   case measure=>simp[intOf];omega
  ·obtain rfl:k=len:=by omega
   have j:=av (La g C B.symm E l.1.2.1)
   have q:Hid (au 176 #[.pointer (some ⟨d.b,d.o+1,none⟩),af (some ⟨c,0,none⟩) k k] wr λe w'=>e=aw (.agg #[ae 4,ae (bY (bw n) p ws nm).2.1.length])/\Hid (mQ base d room ((bY (bw n) p ws nm).2.1++(0,(k:Int))::(bY (bw n) p ws nm).1) (bY (bw n) p ws nm).2.2 _ wr w')):=
    QJ base d room (bY (bw n) p ws nm).2.1 (bY (bw n) p ws nm).2.2 _ (bY (bw n) p ws nm).1 k k (some ⟨c,0,none⟩) wr j.1 (by have:=g.2.2.size;omega) (by have:=(wu n p ws nm).1;have:=G.out;omega) (by rw[im];exact C) (by omega) j.2.1
   have t:=l.2.2;clear g l ih F;go_wp2_with fail;refine q.mono ?_;rintro e h ⟨rfl,z⟩;have r:=av (j.2.2.2 _ _ h z);have d0:=((r.1 0).1.trans (j.2.2.1 0).1).trans t.1.1;have d1:=((r.1 1).1.trans (j.2.2.1 1).1).trans t.1.2;have f0:=((r.1 0).2.trans (j.2.2.1 0).2).trans t.2.1;have f1:=((r.1 1).2.trans (j.2.2.1 1).2).trans t.2.2;clear q j z t;go_wp2_with fail;exact aE (v:=.agg #[ae 4,ae ((bY (bw n) p ws nm).2.1.length:Int)]) (by simp[results,results152,go_sem,d0,d1]) rfl ⟨rfl,r.2 _ _⟩
theorem Ix{M:aX}(a:ed base h room ws nm M w)(b:ap w w'):mQ base h room ws nm M w w':=
 ⟨(a.later b).mono λ_ a=>ak a.1,bC b M⟩
theorem Nv(n:Nat):PR n:=by
 induction n with
 | zero=>intro a t p room d c s q _ w;exact w.elim
 | succ n ih=>
  intro a t p room d c s q u w k y A O J;have H:=w;obtain⟨⟨Q,R,N,M,L⟩,h⟩:=H;have z:=A (bR n a) (by simp[aI,bR]);have F:a.2.2.length<=8:=nd (bR n a) z;have G:a.1.2.2.size<=2048:=by have:=tr (bR n a) z;simp only[bR]at this;omega
  have K:(aI (n+1) a).length=1+(a.2.2.flatMap λf=>aI n f).length:=by simp[aI];omega
  by_cases g:a.1.1=2
  ·have e:bw (n+1) a d c=((2,(lZ (e9 c a.1.2.2) a.1.2.2:Int)),d,e9 c a.1.2.2):=by simp only[bw,if_pos g]
   rw[e];have j:=K8 t p room d c s a.1.2.1 a.1.2.2 a.2.1.1 a.2.2.length a.2.1.2 q u y (by omega) G;rw[<-g]at j;refine j.mono ?_;rintro e B ⟨rfl,r⟩;exact⟨by rw[g];rfl,r⟩
  ·by_cases i:a.1.1=4
   ·have e:bw (n+1) a d c=((4,((bY (bw n) a.2.2 d c).2.1.length:Int)),(bY (bw n) a.2.2 d c).2.1++(0,(a.2.2.length:Int))::(bY (bw n) a.2.2 d c).1,(bY (bw n) a.2.2 d c).2.2):=by simp only[bw,if_neg g,if_pos i]
    rw[e];have j:=Nw n ih t p room d c s a.1.2.1 a.1.2.2 a.2.1.1 a.2.2.length a.2.1.2 a.2.2 rfl q u F y ?_ (λf l=>bu n a f A l) (by unfold Hid;omega) (by unfold Hid;omega)
    ·rw[<-i]at j;refine j.mono ?_;rintro e B ⟨rfl,r⟩;exact⟨by rw[i],r⟩
    ·rcases h with h|⟨b,o,e,v,h⟩
     ·exact ak h
     ·rcases k with k|⟨I,P,m,E,k⟩
      ·exact ak k
      ·rw[e]at m;injection m with m;injection m with C D;subst C D;exact am ⟨b,o,e,v,E,λx f l=>⟨(h x f l).1,(h x f l).2,k x f l⟩⟩
   ·have e:bw (n+1) a d c=((a.1.1,a.1.2.1),d,c):=by simp only[bw,if_neg g,if_neg i]
    rw[e];refine(K9 p a.1.1 a.1.2.1 a.1.2.2 a.2.1.1 a.2.2.length a.2.1.2 q g i).mono ?_;rintro e B ⟨rfl,v⟩;exact⟨rfl,Ix u v⟩
def ee(ws:List Wd)(nm:bm):(n:Nat)->Tm n->Wd->Prop
 | 0,_,_=>False
 | n+1,x,v=>(x.1.1=2->∃i:Nat,v=(2,(i:Int))/\nm[i]?=some x.1.2.2)/\
    (x.1.1=4->∃p:Nat,v=(4,(p:Int))/\ws[p]?=some (0,(x.2.2.length:Int))/\p+1+x.2.2.length<=ws.length/\∀(i:Nat)(y:Tm n),x.2.2[i]?=some y->∃a,ws[p+1+i]?=some a/\ee ws nm n y a)/\
    (x.1.1≠2->x.1.1≠4->v=(x.1.1,x.1.2.1))
def fj(w:ah)(vs:List Wd)(a:ay):Prop:=vs=[]\/∃b o,a=some ⟨b,o,none⟩/\b<w.heap.size/\∀(i:Nat)(v:Wd),vs[i]?=some v->w.cell? ⟨b,o+i*2,none⟩=some (ae v.1)/\w.cell? ⟨b,o+i*2+1,none⟩=some (ae v.2)
def Qz(n:Nat):Prop:=∀(x:Tm n)(v:Wd)(base:Nat)(a:cR)(room:Int)(ws:List Wd)(nm:bm)(M:aX)(w:ah),ed base a room ws nm M w->ws.length<=100000->nm.length<=100000->ee ws nm n x v->aM ⟨n,x⟩->
 au 187 #[.pointer (some ⟨a.b,a.o,none⟩),JT v] w λe w'=>∃y:Tm n,e=aw (dG n y)/\Hid (ap w w'/\In w'.heap.size w' n y/\cG (λq=>w.heap.size<=q) n y/\aK n y n x=true)
def rO(q:Nat)(w:ah):Prop:=w.heap[q]?=some (.cells #[ae 0,ae 0,ag .empty,af none 0 0] 54)
theorem rO.kept{q:Nat}{w w':ah}(a:rO q w)(k:w'.heap[q]?=w.heap[q]?):rO q w':=k.trans a
theorem rO.cells(a:rO q w):(w.cell? ⟨q,0,none⟩=some (ae 0)/\w.cell? ⟨q,1,none⟩=some (ae 0)/\w.cell? ⟨q,2,none⟩=some (ag .empty)/\w.cell? ⟨q,3,none⟩=some (af none 0 0))/\∀j,w.frozen? ⟨q,j,none⟩=false:=by
 unfold rO at a;refine⟨⟨?_,?_,?_,?_⟩,λj=>?_⟩
 all_goals simp[World.cell?,World.frozen?,a]
theorem Mk{p:List (Tm n)}(f:w0.ownsRow (w.heap.size+1) 54 4 (.slice (some ⟨(w.alloc (.cells #[ae 0,ae 0,ag .empty,af none 0 0] 54)).heap.size,0,none⟩) len len) len (madeCells (Value.agg #[ae 0,ae 0,ag .empty,af none 0 0]).cells (len*4)).toList)(a:(w.alloc (.cells #[ae 0,ae 0,ag .empty,af none 0 0] 54)).grownBy w0 none):ap w w0/\vm n p len (w.heap.size+1) 0 [] w0/\rO w.heap.size w0:=by
 have c:(w.alloc (.cells #[ae 0,ae 0,ag .empty,af none 0 0] 54)).heap.size=w.heap.size+1:=by simp
 have g:ap w (w.alloc (.cells #[ae 0,ae 0,ag .empty,af none 0 0] 54)):=aW _ _;have d:Below (w.heap.size+1) (w.alloc (.cells #[ae 0,ae 0,ag .empty,af none 0 0] 54)) w0:=⟨a.os,a.tape,a.output,a.size,λb h=>a.block b (by omega) (by simp)⟩;have e:=rZ (w:=w.alloc (.cells #[ae 0,ae 0,ag .empty,af none 0 0] 54)) n p len (by rw[c]at f ⊢;exact f);rw[c]at e;exact⟨g.trans (d.mono (by omega)),e,(d.block _ (by omega)).trans (aL w _)⟩
theorem vm.end{p:List (Tm n)}{l:List (Tm n)}(r:vm n p len g len l wr)(A:p.length=len)(z:g=w.heap.size+1)(c:ap w wr)(t:len<=maxLen):∀v0 v1 v2 v3,ii n p w (dl wr w.heap.size 0 v0 v1 v2 v3) (some ⟨g,0,none⟩) len l:=by
 intro v0 v1 v2 v3;obtain⟨y,e,i,j⟩:=r;rw[bI (by omega)]at j;rw[iu,nN,eF]at e;refine⟨⟨c.os,c.tape,c.output,aG c.size (cT (bK _ _ _ _).symm),λh f=>(bz (by omega) _ _ _ _).trans (c.block h f)⟩,by omega,by omega,t,j,am ⟨g,0,rfl,⟨by omega,rfl,λv=>?_,λa d=>(i a d).2.mono λh f=>by omega⟩,by rw[bK];exact e.lt.2,λu a d=>?_⟩⟩
 ·have k:=e.free v;unfold World.frozen? at k ⊢;rw[bz (w:=wr) (g:=w.heap.size) (b:=g) (o:=0) (by omega) v0 v1 v2 v3];exact k
 have s:=e.cells u ⟨n,a⟩ (by simp[d]);have m:=(i a (aU d)).1;have q:=(i a (aU d)).2;refine⟨?_,?_,q.mono λh f=>by omega⟩
 ·cases n with
  | zero=>exact m.elim
  | succ n=>
   rw[cC];exact eh.block (bz (by omega) _ _ _ _) (n:=n+1) (x:=a) s
 ·rw[bK];exact In.off (λh f=>bz (by omega) _ _ _ _) q m
theorem A5(n:Nat)(ih:Qz n)(base:Nat)(q:cR)(room:Int)(ws:List Wd)(nm:bm)(M:aX)(a:ay)(len pc:Nat)(p:List (Tm n))(vs:List Wd)(X:Hid (p.length=len))(ax:Hid (vs.length=len))(w:ah)(Q:Hid (ed base q room ws nm M w))(aY:len<=8)(aj:Hid (ws.length<=100000))(V:Hid (nm.length<=100000))(U:Hid (fj w vs a))(Z:Hid (∀(i:Nat)(y:Tm n)(v:Wd),p[i]?=some y->vs[i]?=some v->ee ws nm n y v))(Y:Hid (∀y∈p,aM ⟨n,y⟩)):au 217 #[.pointer (some ⟨q.b,q.o,none⟩),af a len pc] w λe w'=>∃N O l,e=aw (aB 4 0 .empty N len O)/\Hid (ii n p w w' N O l):=by
 obtain⟨az,hit,aa,ab,ad⟩:=bT gN;go_enter func217,ntmps217;go_wp2_with (at_make;refine lN _ rfl _ _ 52 rfl (w.heap.size+1) 54 az _ 4 underlying52 hit aa ab _ _ _ _ len rfl rfl rfl rfl (by rw[ad];omega) (by unfold maxLen;omega) (by simp) ?_;intro F W T;have A:=av (Mk (p:=p) W T);clear W T);clear hit aa ab ad;obtain⟨d,S⟩:∃d,w.heap.size+1=d:=⟨_,rfl⟩;rw[S]at A ⊢;obtain⟨al,J,L⟩:Hid (ap w F)/\Hid (vm n p len d 0 [] F)/\Hid (rO w.heap.size F):=A.out;clear A;go_loopw [13] (λi wr=>∃k:Nat,k<=len/\i=ae k/\Hid (ap w wr/\rO w.heap.size wr/\∃l,vm n p len d k l wr)) (λi _=>len-(intOf i).toNat)
 case atStart=>exact⟨0,by omega,rfl,al,L,[],J⟩
 case round=>
  clear J L;obtain⟨k,aR,rfl,K⟩:=hrel;obtain⟨g,t,l,h⟩:Hid (ap w wr)/\Hid (rO w.heap.size wr)/\∃l,Hid (vm n p len d k l wr):=K.out;clear K;by_cases B:k<len
  ·obtain⟨f,u⟩:∃f,p[k]?=some f:=⟨p[k]'(by rw[X.out];exact B),aV _⟩;obtain⟨v,s⟩:∃v,vs[k]?=some v:=⟨vs[k]'(by rw[ax.out];exact B),aV _⟩;obtain⟨b,o,rfl,R,ai⟩:∃b o,a=some ⟨b,o,none⟩/\b<w.heap.size/\∀(i:Nat)(v:Wd),vs[i]?=some v->w.cell? ⟨b,o+i*2,none⟩=some (ae v.1)/\w.cell? ⟨b,o+i*2+1,none⟩=some (ae v.2):=by
    rcases U.out with e|e
    ·rw[e]at s;simp at s
    ·exact e
   obtain⟨D,E⟩:=ai k v s;replace D:=(aC g b (o+k*2) R).trans D;replace E:=(aC g b (o+k*2+1) R).trans E;have ar:=av u;have aQ:d<wr.heap.size:=h.2.1.lt.2
   have H:Hid (∀(c:ah),ap wr c->au 187 #[.pointer (some ⟨q.b,q.o,none⟩),.agg #[ae v.1,ae v.2]] c λe w'=>∃y:Tm n,e=aw (dG n y)/\Hid (ap c w'/\In w'.heap.size w' n y/\cG (λx=>c.heap.size<=x) n y/\aK n y n f=true)):=
    λc j=>ih f v base q room ws nm _ c (Q.later (g.trans (j.mono g.size))) aj V (Z k f v u s) (Y f (aU u))
   clear ih u s ai U Z Y Q aj V;have aS:(0:Int)<=(k:Int):=by omega
   have aT:(k:Int)<(len:Int):=by omega
   have aZ:b<wr.heap.size:=by omega
   go_wp2_with fail;refine(H _ (aW _ _)).mono ?_;rintro e c ⟨y,rfl,m⟩;have r:Hid (ap wr c):=(aW _ _).trans (m.1.mono (by simp));have aq:=av (h.step B f ar r y m.2.1 (m.2.2.1.mono λx C=>by simp at C;omega) m.2.2.2);have z:=av (h.2.1.below r);have I:=m.2.1;cases n with
   | zero=>exact I.elim
   | succ n=>
   clear I;have am:Hid (ap w (jY c d (k*4) (gM (n+1) y))):=by
    have j:=g.trans (r.mono g.size);exact⟨j.os,j.tape,j.output,aG j.size (cT (bK _ _ _ _).symm),λx C=>(bz (by omega) _ _ _ _).trans (j.block x C)⟩
   have an:Hid (rO w.heap.size (jY c d (k*4) (gM (n+1) y))):=t.kept ((bz (by omega) _ _ _ _).trans (r.block _ (by omega)));obtain⟨G,ak⟩:∃G,(l.map (λf=>(⟨n+1,f⟩:An))++List.replicate (len-k) zA)[k]?=some G:=⟨_,aV (by simp[h.out.1];omega)⟩;obtain⟨aJ,aL,aN,aO⟩:=z.out.cells k G ak;have aP:=λaA=>z.free aA;have P:dG (n+1) y=aB y.1.1 y.1.2.1 y.1.2.2 y.2.1.1 y.2.2.length y.2.1.2:=rfl;rw[P];clear H h g m r z t D E ak P;go_wp2_with fail;go_roundw
   case rel=>exact⟨k+1,by omega,by go_num,am,an,l++ [y],aq⟩
   case measure=>simp[intOf];omega
  ·obtain rfl:k=len:=by omega
   have ao:=av (h.end X S.symm g (by unfold maxLen;omega));obtain⟨⟨aD,aF,aH,aI⟩,f0⟩:=t.out.cells;clear h ih t;go_wp2_with fail;exact aE (v:=.agg #[ae 4,ae 0,ag .empty,af (some ⟨d,0,none⟩) k k]) (by simp[results,results217,go_sem,aD,aF,aH,aI];rfl) rfl ⟨_,_,l,rfl,ao _ _ _ _⟩
theorem F7(b:ap w wA)(c:ap wA w2)(v0 v1 v2 v3:az):ap w (dl w2 (w.heap.size+1) 0 v0 v1 v2 v3):=by
 have a:=b.trans (c.mono b.size);exact⟨a.os,a.tape,a.output,aG a.size (cT (bK _ _ _ _).symm),λe d=>(bz (by omega) _ _ _ _).trans (a.block e d)⟩
theorem Jt(c:cR)(k a:Int)(w:ah)(d:¬k=2)(f:¬k=4):au 187 #[.pointer (some ⟨c.b,c.o,none⟩),.agg #[ae k,ae a]] w λe w'=>e=aw (aB k a .empty none 0 0)/\ap w w':=by
 have g:(k==2)=false:=by simpa using d
 have h:(k==4)=false:=by simpa using f
 go_enter func187,ntmps187;go_wp2_with fail;exact aE (v:=aB k a .empty none 0 0) (by simp[results,results187,go_sem];rfl) rfl ⟨rfl,by go_grown⟩
theorem Js(base:Nat)(a:cR)(room:Int)(ws:List Wd)(nm:bm)(M:aX)(i:Nat)(s:aq)(w:ah)(m:Hid (ed base a room ws nm M w))(q:nm.length<=100000)(r:Hid (nm[i]?=some s))(t:s.size<=2048):au 187 #[.pointer (some ⟨a.b,a.o,none⟩),.agg #[ae 2,ae i]] w λe w'=>e=aw (aB 2 0 s none 0 0)/\ap w w':=by
 go_enter func187,ntmps187;go_wp2_with fail;generalize f:(w.alloc (Obj.cells #[Value.int IntKind.i64 2,Value.int IntKind.i64 i] 184)).alloc (Obj.cells #[ae 0,ae 0,ag ⟨#[]⟩,af none 0 0] 54)=wA;have c:Hid (ap w wA.drew/\wA.drew.heap.size=w.heap.size+2):=by
  subst f;exact⟨((aW _ _).alloc (by simp) _).drew,by simp[World.drew]⟩
 have D:wA.cell? ⟨w.heap.size,1,none⟩=some (ae i):=by subst f;simp[go_sem]
 have l:Hid (rO (w.heap.size+1) wA.drew):=by
  subst f;have:=aL (w.alloc (Obj.cells #[Value.int IntKind.i64 2,Value.int IntKind.i64 i] 184)) (Obj.cells #[ae 0,ae 0,ag ⟨#[]⟩,af none 0 0] 54);have es:∀o,(w.alloc o).heap.size=w.heap.size+1:=λo=>by simp
  rw[es]at this;exact this
 have j:Hid (au 216 #[.pointer (some ⟨a.b,a.o+2,none⟩),ae i] wA.drew λe w'=>e=aw (ag s)/\Below wA.drew.heap.size wA.drew w'):=by
  obtain⟨C,u,x,n,E,p,_⟩:=m.later c.1;exact ER base a room C u x nm i s wA.drew n p.1 r q t
 clear f;go_region_held3 (λw'=>w'.cell? ⟨w.heap.size,1,none⟩=some (ae i)) (go_keep) ((go_at_call 216;refine j.mono ?_;rintro e G ⟨rfl,d⟩;have g:=av d;have F:=λo=>aC d w.heap.size o (by have:=c.2;omega);have h:=av (l.kept (d.block _ (by have:=c.2;omega)));obtain⟨⟨y,z,A,B⟩,f0⟩:=h.cells;clear d));have k:=av (F7 c.1 g (ae 2) (ae 0) (ag s) (af none 0 0));go_wp2_with fail;exact aE (v:=aB 2 0 s none 0 0) (by simp[results,results187,go_sem,y,z,A,B]) rfl ⟨rfl,k⟩
theorem F0(g o j:Nat):(⟨g,o,none⟩:Addr).add j=⟨g,o+j,none⟩:=by
 unfold Addr.add;by_cases a:j=0<;>simp[a]
theorem DJ{o:Nat}(d:fB w vs (some ⟨g,o,none⟩))(h:g<w.heap.size):fj w vs (some ⟨g,o,none⟩):=by
 rcases d with d|⟨ad,c,e⟩
 ·exact ak d
 ·injection c with c;subst c;refine am ⟨g,o,rfl,h,λa b f=>⟨?_,?_⟩⟩
  ·have:=e (a*2+0) (ae b.1) (by rw[jv vs a b f 0 (by omega)];rfl);rw[F0]at this;exact this
  ·have:=e (a*2+1) (ae b.2) (by rw[jv vs a b f 1 (by omega)];rfl);rw[F0]at this;exact this
theorem Mf(n:Nat)(ih:Qz n)(base:Nat)(a:cR)(room:Int)(ws:List Wd)(nm:bm)(M:aX)(k len:Nat)(p:List (Tm n))(L:Hid (p.length=len))(w:ah)(G:Hid (ed base a room ws nm M w))(aj:len<=8)(D:Hid (ws.length<=100000))(K:Hid (nm.length<=100000))(J:Hid (ws[k]?=some (0,(len:Int))))(C:Hid (k+1+len<=ws.length))(O:Hid (∀(i:Nat)(y:Tm n),p[i]?=some y->∃E,ws[k+1+i]?=some E/\ee ws nm n y E))(N:Hid (∀y∈p,aM ⟨n,y⟩)):au 187 #[.pointer (some ⟨a.b,a.o,none⟩),.agg #[ae 4,ae k]] w λe w'=>∃g h l,e=aw (aB 4 0 .empty g len h)/\Hid (ii n p w w' g h l):=by
 go_enter func187,ntmps187;go_wp2_with fail;generalize u:(w.alloc (Obj.cells #[Value.int IntKind.i64 4,Value.int IntKind.i64 k] 184)).alloc (Obj.cells #[ae 0,ae 0,ag ⟨#[]⟩,af none 0 0] 54)=wA;have m:Hid (ap w wA.drew/\wA.drew.heap.size=w.heap.size+2):=by
  subst u;exact⟨((aW _ _).alloc (by simp) _).drew,by simp[World.drew]⟩
 have X:wA.cell? ⟨w.heap.size,1,none⟩=some (ae k):=by subst u;simp[go_sem]
 have V:Hid (rO (w.heap.size+1) wA.drew):=by
  subst u;have:=aL (w.alloc (Obj.cells #[Value.int IntKind.i64 4,Value.int IntKind.i64 k] 184)) (Obj.cells #[ae 0,ae 0,ag ⟨#[]⟩,af none 0 0] 54);have es:∀o,(w.alloc o).heap.size=w.heap.size+1:=λo=>by simp
  rw[es]at this;exact this
 have z:=av (G.later m.1);obtain⟨c,j,f,A,F⟩:∃c j f,wA.cell? ⟨a.b,a.o+1,none⟩=some (af (some ⟨c,0,none⟩) j f)/\Hid (a.b<w.heap.size/\au 218 #[af (some ⟨c,0,none⟩) j f,ae k] wA.drew λe w'=>∃o pc,e=aw (af (some ⟨c,o,none⟩) len pc)/\w'=wA.drew/\Hid (fj wA.drew ((ws.drop (k+1)).take len) (some ⟨c,o,none⟩))):=by
  obtain⟨aO,aK,aN,Y,B,aD,Z,_⟩:=z.out;obtain⟨⟨ax,A,ay,aA⟩,aG⟩:=Y.cells;have ai:=C.out;obtain⟨c,f,rfl,_,_⟩:=B.form (by omega);refine⟨c,_,f,A,Z.2,?_⟩;refine(yP base c ws.length f k len ws wA.drew D B J ai).mono ?_;rintro e w' ⟨rfl,pa,pc,rfl,_,am,o,rfl⟩;exact⟨o,pc,rfl,rfl,DJ am (B.lt c rfl).2⟩
 have S:Hid (∀o pc,fj wA.drew ((ws.drop (k+1)).take len) (some ⟨c,o,none⟩)->au 217 #[.pointer (some ⟨a.b,a.o,none⟩),af (some ⟨c,o,none⟩) len pc] wA.drew λe w'=>∃g h l,e=aw (aB 4 0 .empty g len h)/\Hid (ii n p wA.drew w' g h l)):=by
  intro o pc ad;refine A5 n ih base a room ws nm _ (some ⟨c,o,none⟩) len pc p ((ws.drop (k+1)).take len) L ?_ wA.drew z aj D K ad ?_ N
  ·have:=C.out;unfold Hid;rw[du,eV];omega
  ·intro i y v Q P;obtain⟨E,al,ak⟩:=O.out i y Q;have ab:i<len:=by have:=(bj.1 Q).1;have:=L.out;omega
   rw[tW ab,jy,al]at P;obtain rfl:=aJ P;exact ak
 clear u ih O N G z J C D K;have aH:a.b<w.heap.size:=F.1;have aI:w.heap.size+1≠a.b:=by omega
 have U:Hid (∀(d:ah)(q r s t:az),(d.cell? ⟨w.heap.size,1,none⟩=some (ae k)/\d.cell? ⟨a.b,a.o+1,none⟩=some (af (some ⟨c,0,none⟩) j f))->((((d.setCell ⟨w.heap.size+1,0,none⟩ q).setCell ⟨w.heap.size+1,1,none⟩ r).setCell ⟨w.heap.size+1,2,none⟩ s).setCell ⟨w.heap.size+1,3,none⟩ t).cell? ⟨w.heap.size,1,none⟩=some (ae k)/\((((d.setCell ⟨w.heap.size+1,0,none⟩ q).setCell ⟨w.heap.size+1,1,none⟩ r).setCell ⟨w.heap.size+1,2,none⟩ s).setCell ⟨w.heap.size+1,3,none⟩ t).cell? ⟨a.b,a.o+1,none⟩=some (af (some ⟨c,0,none⟩) j f)):=by
  intro d q r s t I;exact⟨(bN (bz (o:=0) (w:=d) (show w.heap.size≠w.heap.size+1 by omega) q r s t) 1).trans I.1,(bN (bz (o:=0) (w:=d) (show a.b≠w.heap.size+1 by omega) q r s t) (a.o+1)).trans I.2⟩
 go_region_held3 (λw'=>w'.cell? ⟨w.heap.size,1,none⟩=some (ae k)/\w'.cell? ⟨a.b,a.o+1,none⟩=some (af (some ⟨c,0,none⟩) j f)) (first|(go_keep;done)|exact U _ _ _ _ _ aa) ((first
  | (go_at_call 218;refine F.2.mono ?_;rintro e d ⟨o,pc,rfl,rfl,W⟩)
  | (go_at_call 217;refine(S _ _ W).mono ?_;rintro e d ⟨g,h,l,rfl,x⟩;have H:=λb o (aF:b<w.heap.size+1)=>aC x.1 b o (by have:=m.2;omega);have aa:d.cell? ⟨w.heap.size,1,none⟩=some (ae k)/\d.cell? ⟨a.b,a.o+1,none⟩=some (af (some ⟨c,0,none⟩) j f):=⟨(H w.heap.size 1 (by omega)).trans X,(H a.b (a.o+1) (by omega)).trans A⟩;have R:=av (V.kept (x.1.block _ (by have:=m.2;omega)));obtain⟨⟨an,ao,aq,ar⟩,f0⟩:=R.cells)))
 have T:=av (x.box m.1 (by have:=m.2;omega) (ae 4) (ae 0) (ag .empty) (af g len h));go_wp2_with fail;exact aE (v:=aB 4 0 .empty g len h) (by simp[results,results187,go_sem,an,ao,aq,ar]) rfl ⟨g,h,l,rfl,T⟩
theorem vY(x:Nd)(b:cN x=true):dp x.1.1/\dp x.1.2.1:=by
 have c:=lh x b;unfold cN qX at b;unfold dp;rcases c with a|a|a|a|a|⟨a,d⟩
 all_goals (rw[a]at b ⊢;simp at b;refine⟨by omega,by omega⟩)
theorem Me(n:Nat):Qz n:=by
 induction n with
 | zero=>intro a af u q room B z t s _ _ _ x;exact x.elim
 | succ n ih=>
  intro a af u q room B z t s C V F x H;have p:=H (bR n a) (by simp[aI,bR]);have S:a.2.2.length<=8:=nd (bR n a) p;have G:a.1.2.2.size<=2048:=by have:=tr (bR n a) p;simp only[bR]at this;omega
  obtain⟨ad,ae,ab⟩:=x;have g:=eY (bR n a) p;have I:∀(e:ah)(k A:Int)(r:aq),dp k->dp A->r.size<=2048->In e.heap.size e (n+1) ((k,A,r),(none,0),[]):=λe k A r M d ag=>⟨⟨M,d,by unfold maxLen;show r.size<=_;omega,aA _,aN _⟩,ak rfl⟩;by_cases d:a.1.1=2
  ·obtain⟨j,rfl,P⟩:=ad d;have y:a.2.2=[]:=b9 (g.2.2.2.2 (by show a.1.1≠4;omega));refine(Js u q room B z t j a.1.2.2 s C F P G).mono ?_;rintro f e ⟨rfl,v⟩;refine⟨((2,0,a.1.2.2),(none,0),[]),rfl,v,I e 2 0 _ (by unfold dp;omega) (by unfold dp;omega) G,ak rfl,?_⟩;have N:a.1.2.1=0:=g.2.1 d;simp[aK,d,N,y,aO]
  ·by_cases h:a.1.1=4
   ·obtain⟨k,rfl,Q,R,T⟩:=ae h;refine(Mf n ih u q room B z t k a.2.2.length a.2.2 rfl s C S V F Q R T (λm i=>bu n a m H i)).mono ?_;rintro f e ⟨K,L,l,rfl,J⟩;obtain⟨W,X,Y,Z,aa,c⟩:=J;have O:a.1.2.1=0:=g.2.2.1 h;have w:a.1.2.2.toList=[]:=g.1 d;refine⟨((4,0,.empty),(K,L),l),by rw[<-X];rfl,W,⟨⟨by unfold dp;show (-9223372036854775808:Int)<=4/\(4:Int)<=9223372036854775807;omega,by unfold dp;show (-9223372036854775808:Int)<=0/\(0:Int)<=9223372036854775807;omega,by unfold maxLen;show (0:Nat)<=_;omega,Y,Z⟩,?_⟩,?_,?_⟩
    ·rcases c with c|⟨b,o,f,D,E,c⟩
     ·exact ak c
     ·exact am ⟨b,o,f,E,λj m i=>⟨(c j m i).1,(c j m i).2.1⟩⟩
    ·rcases c with c|⟨b,o,f,D,E,c⟩
     ·exact ak c
     ·exact am ⟨b,o,f,D.1,λj m i=>(c j m i).2.2⟩
    ·simp only[aK];rw[h,O,w,aa];simp
   ·have U:=ab d h;subst U;have y:a.2.2=[]:=b9 (g.2.2.2.2 h);have w:a.1.2.2.toList=[]:=g.1 d;refine(Jt q a.1.1 a.1.2.1 s d h).mono ?_;rintro f e ⟨rfl,v⟩;refine⟨((a.1.1,a.1.2.1,.empty),(none,0),[]),rfl,v,I e _ _ _ ?_ ?_ (by show (0:Nat)<=_;omega),ak rfl,?_⟩
    ·exact(vY _ p).1
    ·exact(vY _ p).2
    ·simp only[aK];rw[w,y];simp[aO]
def df(ws:List Wd)(nm:bm)(v:Wd):Bool:=
 if v.1=1 then qX v.2 (-1099511627776) 1099511627776 else if v.1=3 then qX v.2 1 99 else if v.1=2 then wb nm.length v.2 else if v.1=4 then gu ws v.2 else false
def Aw(k a:Int):Tm 1:=((k,a,.empty),(none,0),[])
theorem Le(k a:Int)(b:k=1\/k=3):bL 1 (Aw k a)=if cN (bR 0 (Aw k a))then 0 else 5:=by
 rcases b with rfl|rfl<;>simp[bL,Aw,aI,qy,uE,sz,mI,bR]<;>rfl
theorem Iz(ws:List Wd)(nm:bm)(k a:Int)(b:k=1\/k=3):cN (bR 0 (Aw k a))=df ws nm (k,a):=by
 rcases b with rfl|rfl<;>simp[cN,Aw,bR,df]
theorem xg(i:cR)(ws:List Wd)(nm:bm)(k a:Int)(w:ah)(d:k=1\/k=3)(j:dp a):au 186 #[.pointer (some ⟨i.b,i.o,none⟩),.agg #[ae k,ae a]] w λe w'=>e=aw (.bool (df ws nm (k,a)))/\ap w w':=by
 have f:Hid (∀c,au 53 #[aB k a .empty none 0 0] c λe w'=>e=aw (ae (if df ws nm (k,a)then 0 else 5))/\ap c w'):=by
  intro c;have g:=dX 1 (Aw k a) c.heap.size c ⟨⟨by rcases d with rfl|rfl<;>simp[Aw,dp],j,by simp[Aw,maxLen],aA _,aN _⟩,ak rfl⟩ (aA _) (by simp[aI,Aw]);rw[Le k a d,Iz ws nm k a d]at g;exact g
 generalize df ws nm (k,a)=l at*;cases l
 all_goals
  simp only[cD,p7,if_false]at f;rcases d with rfl|rfl
  all_goals
   go_enter func186,ntmps186;go_wp2_with fail;refine(f _).mono ?_;rintro e m ⟨rfl,h⟩;have HB:=av h;clear h;go_wp2_with fail
   go_ret
   exact⟨rfl,(aW _ _).trans (HB.mono (by simp))⟩
theorem Dr(base:Nat)(d:cR)(room:Int)(ws:List Wd)(nm:bm)(M:aX)(a:Int)(w:ah)(j:Hid (ed base d room ws nm M w)):au 186 #[.pointer (some ⟨d.b,d.o,none⟩),.agg #[ae 2,ae a]] w λe w'=>e=aw (.bool (wb nm.length a))/\ap w w':=by
 have k:Hid (∀wA,ap w wA->au 214 #[.pointer (some ⟨d.b,d.o+2,none⟩),ae a] wA λe w'=>e=aw (.bool (wb nm.length a))/\w'=wA):=by
  intro wA p;obtain⟨s,q,r,m,y,n,_⟩:=j.out.later p;obtain⟨g,h,rfl⟩:∃g h,q=af g nm.length h:=by
   rcases n.1.2 with⟨e,l⟩|⟨x,c,u,e,_⟩
   ·exact⟨none,0,by rw[e,l]⟩
   ·exact⟨_,c,e⟩
  exact Nk d room s g nm.length h r a wA m
 clear j;generalize wb nm.length a=t at*;go_enter func186,ntmps186;go_wp2_with fail;generalize f:w.alloc (Obj.cells #[Value.int IntKind.i64 2,Value.int IntKind.i64 a] 184)=wA;have i:Hid (ap w wA.drew):=by subst f;exact(aW _ _).drew
 have v:wA.cell? ⟨w.heap.size,1,none⟩=some (ae a):=by subst f;simp[go_sem]
 clear f;go_region_held3 (λw'=>w'.cell? ⟨w.heap.size,1,none⟩=some (ae a)) (go_keep) ((go_at_call 214;refine(k _ i).mono ?_;rintro e z ⟨rfl,rfl⟩));go_wp2_with fail
 go_ret
 exact⟨rfl,i⟩
theorem Fz(base:Nat)(a:cR)(room:Int)(ws:List Wd)(nm:bm)(M:aX)(g:Int)(w:ah)(l:Hid (ed base a room ws nm M w))(t:ws.length<=100000):au 186 #[.pointer (some ⟨a.b,a.o,none⟩),.agg #[ae 4,ae g]] w λe w'=>e=aw (.bool (gu ws g))/\ap w w':=by
 obtain⟨d,f,s,k,p⟩:∃d f,a.b<w.heap.size/\w.cell? ⟨a.b,a.o+1,none⟩=some (af d ws.length f)/\Hid (∀wA,ap w wA->au 215 #[af d ws.length f,ae g] wA λe w'=>e=aw (.bool (gu ws g))/\w'=wA):=by
  obtain⟨u,B,C,m,n,A,_⟩:=l.out;obtain⟨d,f,rfl⟩:∃d f,u=af d ws.length f:=by
   rcases n.2 with⟨e,q⟩|⟨z,c,x,e,_⟩
   ·exact⟨none,0,by rw[e,q]⟩
   ·exact⟨_,c,e⟩
  exact⟨d,f,m.lt,m.cells.1.2.1,λwA r=>DY base d ws.length f ws g wA rfl t (dV n r)⟩
 clear l;generalize gu ws g=v at*;generalize ws.length=j at*;go_enter func186,ntmps186;go_wp2_with fail;generalize i:w.alloc (Obj.cells #[Value.int IntKind.i64 4,Value.int IntKind.i64 g] 184)=wA;have h:Hid (ap w wA.drew):=by subst i;exact(aW _ _).drew
 have y:wA.cell? ⟨w.heap.size,1,none⟩=some (ae g):=by subst i;simp[go_sem]
 replace k:wA.cell? ⟨a.b,a.o+1,none⟩=some (af d j f):=(aC h a.b (a.o+1) s).trans k;clear i;go_region_held3 (λw'=>w'.cell? ⟨w.heap.size,1,none⟩=some (ae g)/\w'.cell? ⟨a.b,a.o+1,none⟩=some (af d j f)) (go_keep) ((go_at_call 215;refine(p _ h).mono ?_;rintro e D ⟨rfl,rfl⟩));go_wp2_with fail
 go_ret
 exact⟨rfl,h⟩
theorem Ds(a:cR)(k h:Int)(w:ah)(c:¬k=1)(d:¬k=2)(f:¬k=3)(g:¬k=4):au 186 #[.pointer (some ⟨a.b,a.o,none⟩),.agg #[ae k,ae h]] w λe w'=>e=aw (.bool false)/\ap w w':=by
 have i:(k==1)=false:=by simpa using c
 have j:(k==2)=false:=by simpa using d
 have l:(k==3)=false:=by simpa using f
 have m:(k==4)=false:=by simpa using g
 go_enter func186,ntmps186;go_wp2_with fail
 go_ret
 exact⟨rfl,by go_grown⟩
theorem xe(base:Nat)(c:cR)(room:Int)(ws:List Wd)(nm:bm)(M:aX)(v:Wd)(w:ah)(i:ed base c room ws nm M w)(l:ws.length<=100000)(j:dp v.2):au 186 #[.pointer (some ⟨c.b,c.o,none⟩),JT v] w λe w'=>e=aw (.bool (df ws nm v))/\ap w w':=by
 obtain⟨k,a⟩:=v;by_cases d:k=1
 ·exact xg c ws nm k a w (ak d) j
 ·by_cases g:k=3
  ·exact xg c ws nm k a w (am g) j
  ·by_cases f:k=2
   ·subst f;have e:df ws nm (2,a)=wb nm.length a:=by simp[df]
    rw[e];exact Dr base c room ws nm M a w i
   ·by_cases h:k=4
    ·subst h;have e:df ws nm (4,a)=gu ws a:=by simp[df]
     rw[e];exact Fz base c room ws nm M a w i l
    ·have e:df ws nm (k,a)=false:=by simp[df,d,f,g,h]
     rw[e];exact Ds c k a w d f g h
theorem zM(base:Nat)(j:cR)(room:Int)(ws:List Wd)(nm:bm)(M:aX)(vs:List Wd)(a:ay)(len pc:Nat)(w:ah)(r:Hid (ed base j room ws nm M w))(D:ws.length<=100000)(y:Hid (vs.length=len))(I:len<=100000)(x:Hid (fj w vs a))(u:Hid (∀v∈vs,dp v.2)):au 240 #[.pointer (some ⟨j.b,j.o,none⟩),af a len pc] w λe w'=>e=aw (.bool (vs.all (df ws nm)))/\ap w w':=by
 go_enter func240,ntmps240;go_wp2_with fail;go_loopw [9] (λg wr=>∃k:Nat,k<=len/\g=ae k/\Hid (ap w wr/\(vs.take k).all (df ws nm)=true)) (λg _=>len-(intOf g).toNat)
 case atStart=>exact⟨0,by omega,rfl,aH _ _,by simp⟩
 case round=>
  obtain⟨k,F,rfl,c⟩:=hrel;by_cases C:k<len
  ·obtain⟨v,f⟩:∃v,vs[k]?=some v:=⟨vs[k]'(by rw[y.out];exact C),aV _⟩;obtain⟨b,o,rfl,t,z⟩:∃b o,a=some ⟨b,o,none⟩/\b<w.heap.size/\∀(g:Nat)(v:Wd),vs[g]?=some v->w.cell? ⟨b,o+g*2,none⟩=some (ae v.1)/\w.cell? ⟨b,o+g*2+1,none⟩=some (ae v.2):=by
    rcases x.out with e|e
    ·rw[e]at f;simp at f
    ·exact e
   obtain⟨p,q⟩:=z k v f;replace p:=(aC c.1 b (o+k*2) t).trans p;replace q:=(aC c.1 b (o+k*2+1) t).trans q
   have h:Hid (∀(d:ah),ap wr d->au 186 #[.pointer (some ⟨j.b,j.o,none⟩),.agg #[ae v.1,ae v.2]] d λe w'=>e=aw (.bool (df ws nm v))/\ap d w'):=
    λd B=>xe base j room ws nm _ v d (r.later (c.1.trans (B.mono c.1.size))) D (u v (aU f))
   have i:Hid ((df ws nm v=true->(vs.take (k+1)).all (df ws nm)=true)/\(df ws nm v=false->vs.all (df ws nm)=false)):=by
    refine⟨λe=>?_,λe=>?_⟩
    ·rw[dL,f,lA,c.out.2];simp[e]
    ·cases ha:vs.all (df ws nm)
     ·rfl
     ·rw[cZ]at ha;rw[ha v (aU f)]at e;exact e
   have m:Hid (ap w wr):=c.1;clear f z x r u c;have G:(0:Int)<=(k:Int):=by omega
   have H:(k:Int)<(len:Int):=by omega
   have E:=m.size;have J:b<wr.heap.size:=by omega
   clear E;cases hsb:df ws nm v
   ·rw[hsb]at h;replace i:=av (i.2 hsb);clear hsb;go_wp2_with fail;refine(h _ (aW _ _)).mono ?_;rintro e d ⟨rfl,n⟩;have l:Hid (ap w d):=m.trans (((aW _ _).trans (n.mono (by simp))).mono m.size);clear n p q h;go_wp2_with fail
    go_ret
    exact⟨ge i.symm,l⟩
   ·rw[hsb]at h;replace i:=av (i.1 hsb);clear hsb;go_wp2_with fail;refine(h _ (aW _ _)).mono ?_;rintro e d ⟨rfl,n⟩;have l:Hid (ap w d):=m.trans (((aW _ _).trans (n.mono (by simp))).mono m.size);clear n p q h;go_wp2_with fail;go_roundw
    case rel=>exact⟨k+1,by omega,by go_num,l,i⟩
    case measure=>simp[intOf];omega
  ·have A:Hid (vs.all (df ws nm)=true):=by
     have s:=c.2;rw[bI (by have:=y.out;omega)]at s;exact s
   have l:Hid (ap w wr):=c.1;clear c;go_wp2_with fail
   go_ret
   exact⟨ge A.symm,l⟩
def mE(q:Nat)(k b:Int)(s:aq)(a:ay)(l c:Nat)(w:ah):Prop:=
 w.heap[q]?=some (.cells #[ae k,ae b,ag s,af a l c] 54)/\w.heap[q+1]?=some (.cells #[ae 0,ae 0] 184)
theorem vf(w:ah)(k b:Int)(s:aq)(a:ay)(l c:Nat):mE w.heap.size k b s a l c ((w.alloc (Obj.cells #[ae k,ae b,ag s,af a l c] 54)).alloc (Obj.cells #[ae 0,ae 0] 184)):=by
 refine⟨((dC (w.alloc (Obj.cells #[ae k,ae b,ag s,af a l c] 54)) (Obj.cells #[ae 0,ae 0] 184) none).block _ (by simp) (by simp)).trans (aL w _),?_⟩;have:=aL (w.alloc (Obj.cells #[ae k,ae b,ag s,af a l c] 54)) (Obj.cells #[ae 0,ae 0] 184);have es:∀o,(w.alloc o).heap.size=w.heap.size+1:=λo=>by simp
 rw[es]at this;exact this
theorem mE.facts{s:aq}{l:Nat}(b:mE q k z s a l c w):(w.cell? ⟨q,0,none⟩=some (ae k)/\w.cell? ⟨q,1,none⟩=some (ae z)/\w.cell? ⟨q,2,none⟩=some (ag s)/\w.cell? ⟨q,3,none⟩=some (af a l c))/\(w.cell? ⟨q+1,0,none⟩=some (ae 0)/\w.cell? ⟨q+1,1,none⟩=some (ae 0))/\w.frozen? ⟨q+1,0,none⟩=false/\w.frozen? ⟨q+1,1,none⟩=false:=by
 obtain⟨d,e⟩:=b;refine⟨⟨?_,?_,?_,?_⟩,⟨?_,?_⟩,?_,?_⟩
 all_goals simp[World.cell?,World.frozen?,d,e]
theorem gd{s:aq}{l:Nat}(f:ap w w1/\w.heap.size+2<=w1.heap.size/\mE w.heap.size k z s a l c w1)(b:ap w1 w2):ap w w2/\w.heap.size+2<=w2.heap.size/\mE w.heap.size k z s a l c w2:=by
 obtain⟨d,g,e⟩:=f;have:=b.size;exact⟨d.trans (b.mono d.size),by omega,(b.block _ (by omega)).trans e.1,(b.block _ (by omega)).trans e.2⟩
theorem qW{s:aq}{l:Nat}(d:ap w w1/\w.heap.size+2<=w1.heap.size/\mE w.heap.size k z s a l c w1)(v0 v1:az):ap w ((w1.setCell ⟨w.heap.size+1,0,none⟩ v0).setCell ⟨w.heap.size+1,1,none⟩ v1):=by
 obtain⟨f,j,m⟩:=d;have h:=bJ w1 (w.heap.size+1) 0 v0;have i:=bJ (w1.setCell ⟨w.heap.size+1,0,none⟩ v0) (w.heap.size+1) 1 v1;have e:=(bC f (λb=>b=w.heap.size+1)).trans (h.trans i (λb _ d=>d)) (λb _ d=>d);exact⟨e.os,e.tape,e.output,e.size,λb g=>e.block b g (by omega)⟩
theorem Po(m:cR)(k f:Int)(s:aq)(a:ay)(l c:Nat)(w:ah)(d:Int)(t:(d !=0)=true)(p:Hid (∀w1,ap w w1->au 53 #[aB k f s a l c] w1 λe w'=>e=aw (ae d)/\ap w1 w')):au 123 #[.pointer (some ⟨m.b,m.o,none⟩),aB k f s a l c] w λe w'=>e=aw (ax #[.agg #[ae 0,ae 0],ae d])/\ap w w':=by
 go_enter func123,ntmps123;go_wp2_with fail;generalize n:(w.alloc (Obj.cells #[ae k,ae f,ag s,af a l c] 54)).alloc (Obj.cells #[ae 0,ae 0] 184)=h;have g:Hid (ap w h/\w.heap.size+2<=h.heap.size/\mE w.heap.size k f s a l c h):=by
  subst n;exact⟨(aW _ _).alloc (by simp) _,by simp,vf _ _ _ _ _ _ _⟩
 clear n;refine(p _ g.1).mono ?_;rintro e w1 ⟨rfl,j⟩;have i:=av (gd g j);obtain⟨⟨t0,t1,t2,t3⟩,⟨q,r⟩,f0,f1⟩:=i.out.2.2.facts;clear j g;go_wp2_with fail;exact aE (v:=ax #[.agg #[ae 0,ae 0],ae d]) (by simp[results,results123,go_sem,q,r]) rfl ⟨rfl,qW i _ _⟩
theorem Pp(p:cR)(k f:Int)(s:aq)(a:ay)(l c:Nat)(w:ah)(r:Hid (∀w1,ap w w1->au 53 #[aB k f s a l c] w1 λe w'=>e=aw (ae 0)/\ap w1 w'))(t:Hid (∀w1,ap w w1->au 132 #[aB k f s a l c] w1 λe w'=>e=aw (.bool false)/\ap w1 w')):au 123 #[.pointer (some ⟨p.b,p.o,none⟩),aB k f s a l c] w λe w'=>e=aw (ax #[.agg #[ae 0,ae 0],ae 5])/\ap w w':=by
 go_enter func123,ntmps123;go_wp2_with fail;generalize q:(w.alloc (Obj.cells #[ae k,ae f,ag s,af a l c] 54)).alloc (Obj.cells #[ae 0,ae 0] 184)=m;have h:Hid (ap w m/\w.heap.size+2<=m.heap.size/\mE w.heap.size k f s a l c m):=by
  subst q;exact⟨(aW _ _).alloc (by simp) _,by simp,vf _ _ _ _ _ _ _⟩
 clear q;refine(r _ h.1).mono ?_;rintro e w1 ⟨rfl,d⟩;have g:=av (gd h d);obtain⟨⟨t0,t1,t2,t3⟩,⟨i,j⟩,f0,f1⟩:=g.out.2.2.facts;clear d h;go_wp2_with fail;clear t0 t1 t2 t3 i j f0 f1;refine(t _ g.1).mono ?_;rintro e u ⟨rfl,d⟩;have n:=av (gd g d);obtain⟨⟨t0,t1,t2,t3⟩,⟨i,j⟩,f0,f1⟩:=n.out.2.2.facts;clear d g;go_wp2_with fail;exact aE (v:=ax #[.agg #[ae 0,ae 0],ae 5]) (by simp[results,results123,go_sem,i,j]) rfl ⟨rfl,qW n _ _⟩
theorem Pq(n:cR)(k h:Int)(s:aq)(a:ay)(l c:Nat)(w:ah)(u:Int)(x:Hid (∀w1,ap w w1->au 53 #[aB k h s a l c] w1 λe w'=>e=aw (ae 0)/\ap w1 w'))(z:Hid (∀w1,ap w w1->au 132 #[aB k h s a l c] w1 λe w'=>e=aw (.bool true)/\ap w1 w'))(A:Hid (∀w1,ap w w1->au 79 #[aB k h s a l c] w1 λe w'=>e=aw (ae u)/\ap w1 w'))(y:Hid (∀w1,ap w w1->au 151 #[.pointer (some ⟨n.b,n.o,none⟩),ae u] w1 λe w'=>e=aw (.bool false)/\ap w1 w')):au 123 #[.pointer (some ⟨n.b,n.o,none⟩),aB k h s a l c] w λe w'=>e=aw (ax #[.agg #[ae 0,ae 0],ae 6])/\ap w w':=by
 go_enter func123,ntmps123;go_wp2_with fail;generalize t:(w.alloc (Obj.cells #[ae k,ae h,ag s,af a l c] 54)).alloc (Obj.cells #[ae 0,ae 0] 184)=q;have p:Hid (ap w q/\w.heap.size+2<=q.heap.size/\mE w.heap.size k h s a l c q):=by
  subst t;exact⟨(aW _ _).alloc (by simp) _,by simp,vf _ _ _ _ _ _ _⟩
 clear t;refine(x _ p.1).mono ?_;rintro e w1 ⟨rfl,d⟩;have i:=av (gd p d);obtain⟨⟨t0,t1,t2,t3⟩,⟨f,g⟩,f0,f1⟩:=i.out.2.2.facts;clear d p;go_wp2_with fail;clear t0 t1 t2 t3 f g f0 f1;refine(z _ i.1).mono ?_;rintro e B ⟨rfl,d⟩;have j:=av (gd i d);obtain⟨⟨t0,t1,t2,t3⟩,⟨f,g⟩,f0,f1⟩:=j.out.2.2.facts;clear d i;go_wp2_with fail;clear t0 t1 t2 t3 f g f0 f1;refine(A _ j.1).mono ?_;rintro e C ⟨rfl,d⟩;have m:=av (gd j d);obtain⟨⟨t0,t1,t2,t3⟩,⟨f,g⟩,f0,f1⟩:=m.out.2.2.facts;clear d j;go_wp2_with fail;clear t0 t1 t2 t3 f g f0 f1;refine(y _ m.1).mono ?_;rintro e D ⟨rfl,d⟩;have r:=av (gd m d);obtain⟨⟨t0,t1,t2,t3⟩,⟨f,g⟩,f0,f1⟩:=r.out.2.2.facts;clear d m;go_wp2_with fail;exact aE (v:=ax #[.agg #[ae 0,ae 0],ae 6]) (by simp[results,results123,go_sem,f,g]) rfl ⟨rfl,qW r _ _⟩
theorem Pr(h:cR)(k m:Int)(s:aq)(a:ay)(l c:Nat)(w:ah)(z:Int)(g:Wd)(base:Nat)(room:Int)(ws:List Wd)(nm:bm)(M:aX)(A:Hid (∀w1,ap w w1->au 53 #[aB k m s a l c] w1 λe w'=>e=aw (ae 0)/\ap w1 w'))(D:Hid (∀w1,ap w w1->au 132 #[aB k m s a l c] w1 λe w'=>e=aw (.bool true)/\ap w1 w'))(E:Hid (∀w1,ap w w1->au 79 #[aB k m s a l c] w1 λe w'=>e=aw (ae z)/\ap w1 w'))(C:Hid (∀w1,ap w w1->au 151 #[.pointer (some ⟨h.b,h.o,none⟩),ae z] w1 λe w'=>e=aw (.bool true)/\ap w1 w'))(F:Hid (∀w1,ap w w1->au 152 #[.pointer (some ⟨h.b,h.o,none⟩),aB k m s a l c] w1 λe w'=>e=aw (.agg #[ae g.1,ae g.2])/\Hid (mQ base h room ws nm (λb=>M b/\b<w.heap.size) w1 w'))):au 123 #[.pointer (some ⟨h.b,h.o,none⟩),aB k m s a l c] w λe w'=>e=aw (ax #[.agg #[ae g.1,ae g.2],ae 0])/\Hid (mQ base h room ws nm M w w'):=by
 go_enter func123,ntmps123;go_wp2_with fail;generalize y:(w.alloc (Obj.cells #[ae k,ae m,ag s,af a l c] 54)).alloc (Obj.cells #[ae 0,ae 0] 184)=x;have t:Hid (ap w x/\w.heap.size+2<=x.heap.size/\mE w.heap.size k m s a l c x):=by
  subst y;exact⟨(aW _ _).alloc (by simp) _,by simp,vf _ _ _ _ _ _ _⟩
 clear y;refine(A _ t.1).mono ?_;rintro e w1 ⟨rfl,d⟩;have p:=av (gd t d);obtain⟨⟨t0,t1,t2,t3⟩,⟨i,j⟩,f0,f1⟩:=p.out.2.2.facts;clear d t;go_wp2_with fail;clear t0 t1 t2 t3 i j f0 f1;refine(D _ p.1).mono ?_;rintro e I ⟨rfl,d⟩;have q:=av (gd p d);obtain⟨⟨t0,t1,t2,t3⟩,⟨i,j⟩,f0,f1⟩:=q.out.2.2.facts;clear d p;go_wp2_with fail;clear t0 t1 t2 t3 i j f0 f1;refine(E _ q.1).mono ?_;rintro e J ⟨rfl,d⟩;have r:=av (gd q d);obtain⟨⟨t0,t1,t2,t3⟩,⟨i,j⟩,f0,f1⟩:=r.out.2.2.facts;clear d q;go_wp2_with fail;clear t0 t1 t2 t3 i j f0 f1;refine(C _ r.1).mono ?_;rintro e K ⟨rfl,d⟩;have f:=av (gd r d);obtain⟨⟨t0,t1,t2,t3⟩,⟨i,j⟩,f0,f1⟩:=f.out.2.2.facts;clear d r;go_wp2_with fail;refine(F _ f.1).mono ?_;rintro e L ⟨rfl,u⟩;have n:=wl u;have d0:=(n (w.heap.size+1) (by omega) (by have:=f.2.1;omega) 0).1.trans i;have d1:=(n (w.heap.size+1) (by omega) (by have:=f.2.1;omega) 1).1.trans j;have G:=(n (w.heap.size+1) (by omega) (by have:=f.2.1;omega) 0).2.trans f0;have H:=(n (w.heap.size+1) (by omega) (by have:=f.2.1;omega) 1).2.trans f1;have B:=av (Cu u f.1 f.2.1 (ae g.1) (ae g.2));clear n t0 t1 t2 t3 i j f0 f1 u;go_wp2_with fail;exact aE (v:=ax #[.agg #[ae g.1,ae g.2],ae 0]) (by simp[results,results123,go_sem,d0,d1]) rfl ⟨rfl,B⟩
theorem wN:(n:Nat)->(x:Tm n)->aM ⟨n,x⟩->((aI n x).length:Int)<=sz n x+1
 | 0,_,_=>by simp[aI,sz]
 | n+1,x,h=>by
  have c:=eY (bR n x) (h (bR n x) (by simp[aI,bR]));by_cases a:x.1.1=4
  ·have key:∀l:List (Tm n),(∀y∈l,aM ⟨n,y⟩)->((l.flatMap λy=>aI n y).length:Int)<=(l.map λy=>1+sz n y).sum:=by
     intro l
     induction l with
     | nil=>intro _;simp
     | cons y l ih=>
      intro b;have g:=wN n y (b y (by simp));have i:=ih (λf e=>b f (by simp[e]));simp only[bM,br,bB,dk];omega
   have k:=key x.2.2 (λy d=>bu n x y h d);simp only[aI,bv,sz,if_pos a];omega
  ·have:x.2.2=[]:=b9 (c.2.2.2.2 a);simp[aI,this,sz,a]
theorem Kn{x:Tm n}(a:bL n x=0):cw n x=true:=by
 rw[<-gO]at a;unfold xO at a;cases hf:cw n x
 ·simp[hf]at a
 ·rfl
def jo(n:Nat)(x:Tm n)(room:Int)(ws:List Wd):Int:=if bL n x≠0 then bL n x else if aY n x=false then 5 else if decide (sz n x<=room-ws.length)=false then 6 else 0
def JX(n:Nat)(x:Tm n)(base:Nat)(a:cR)(room:Int)(ws:List Wd)(nm:bm)(M:aX)(w:ah)(e:Ending)(w':ah):Prop:=
 (jo n x room ws≠0->e=aw (ax #[JT (0,0),ae (jo n x room ws)])/\ap w w')/\
 (jo n x room ws=0->(bL n x=0/\aY n x=true/\sz n x<=room-ws.length)/\e=aw (ax #[JT (bw n x ws nm).1,ae 0])/\mQ base a room (bw n x ws nm).2.1 (bw n x ws nm).2.2 M w w')
theorem we(n:Nat)(x:Tm n)(base:Nat)(e:cR)(room:Int)(ws:List Wd)(nm:bm)(M:aX)(w:ah)(A:ed base e room ws nm M w)(m:In w.heap.size w n x)(G:cG (λb=>¬M b) n x)(B:(aI n x).length<=2097152)(S:base<=w.heap.size)(I:0<=room)(H:room<=1000)(V:ws.length<=1000)(T:nm.length<=95000):au 123 #[.pointer (some ⟨e.b,e.o,none⟩),dG n x] w (JX n x base e room ws nm M w):=by
 cases n with
 | zero=>exact m.elim
 | succ n=>
 have k:∀a,ap w a->au 53 #[dG (n+1) x] a λd g=>d=aw (ae (bL (n+1) x))/\ap a g:=λa f=>dX (n+1) x w.heap.size a (m.below f) f.size B;have l:∀a,ap w a->au 132 #[dG (n+1) x] a λd g=>d=aw (.bool (aY (n+1) x))/\ap a g:=λa f=>jb (n+1) x w.heap.size a (m.below f) f.size;have z:∀a,ap w a->au 79 #[dG (n+1) x] a λd g=>d=aw (ae (sz (n+1) x))/\ap a g:=λa f=>zv (n+1) x w.heap.size a (m.below f) f.size B;have q:∀a,ap w a->au 151 #[.pointer (some ⟨e.b,e.o,none⟩),ae (sz (n+1) x)] a λd g=>d=aw (.bool (decide (sz (n+1) x<=room-ws.length)))/\ap a g:=by
  intro a f;obtain⟨P,N,O,K,L,W,_⟩:=A.later f;obtain⟨v,y,rfl⟩:∃v y,P=af v ws.length y:=by
   rcases L.2 with⟨d,E⟩|⟨R,c,Q,d,_⟩
   ·exact⟨none,0,by rw[d,E]⟩
   ·exact⟨_,c,d⟩
  exact Cp e room (sz (n+1) x) v ws.length y N O a (by omega) I H K
 by_cases i:bL (n+1) x=0
 ·rw[i]at k;by_cases u:aY (n+1) x=false
  ·rw[u]at l;have d:jo (n+1) x room ws=5:=by simp[jo,i,u]
   refine(Pp e x.1.1 x.1.2.1 x.1.2.2 x.2.1.1 x.2.2.length x.2.1.2 w k l).mono ?_;rintro s g ⟨rfl,h⟩;exact⟨λ_=>⟨by rw[d];rfl,h⟩,λj=>absurd (d.symm.trans j) (by decide)⟩
  ·have r:aY (n+1) x=true:=by simpa using u
   rw[r]at l;by_cases p:sz (n+1) x<=room-ws.length
   ·have t:decide (sz (n+1) x<=room-ws.length)=true:=by simpa using p
    rw[t]at q;have d:jo (n+1) x room ws=0:=by simp[jo,i,r,p]
    have C:aM ⟨n+1,x⟩:=aZ.2 (Kn i);have U:=wN (n+1) x C;have D:∀a,ap w a->au 152 #[.pointer (some ⟨e.b,e.o,none⟩),dG (n+1) x] a λd g=>d=aw (JT (bw (n+1) x ws nm).1)/\Hid (mQ base e room (bw (n+1) x ws nm).2.1 (bw (n+1) x ws nm).2.2 (λb=>M b/\b<w.heap.size) a g):=by
     intro a f;have J:=f.size;exact Nv (n+1) x base e room ws nm _ a (A.later f) ((m.below f).mono J) (G.mono λb h F=>h F.1) (by omega) C (by omega) (by omega)
    refine(Pr e x.1.1 x.1.2.1 x.1.2.2 x.2.1.1 x.2.2.length x.2.1.2 w (sz (n+1) x) (bw (n+1) x ws nm).1 base room (bw (n+1) x ws nm).2.1 (bw (n+1) x ws nm).2.2 M k l z q D).mono ?_;rintro s g ⟨rfl,h⟩;exact⟨λj=>absurd d j,λ_=>⟨⟨i,r,p⟩,rfl,h⟩⟩
   ·have t:decide (sz (n+1) x<=room-ws.length)=false:=by simpa using p
    rw[t]at q;have d:jo (n+1) x room ws=6:=by simp[jo,i,r,p]
    refine(Pq e x.1.1 x.1.2.1 x.1.2.2 x.2.1.1 x.2.2.length x.2.1.2 w (sz (n+1) x) k l z q).mono ?_;rintro s g ⟨rfl,h⟩;exact⟨λ_=>⟨by rw[d];rfl,h⟩,λj=>absurd (d.symm.trans j) (by decide)⟩
 ·have d:jo (n+1) x room ws=bL (n+1) x:=by simp[jo,i]
  refine(Po e x.1.1 x.1.2.1 x.1.2.2 x.2.1.1 x.2.2.length x.2.1.2 w (bL (n+1) x) (by simpa using i) k).mono ?_;rintro s g ⟨rfl,h⟩;exact⟨λ_=>⟨by rw[d];rfl,h⟩,λj=>absurd (d.symm.trans j) i⟩
def sW(q:Nat)(k a:Int)(w:ah):Prop:=w.heap[q]?=some (.cells #[ae k,ae a] 184)/\rO (q+1) w
theorem Nh(w:ah)(k a:Int):sW w.heap.size k a ((w.alloc (Obj.cells #[ae k,ae a] 184)).alloc (Obj.cells #[ae 0,ae 0,ag ⟨#[]⟩,af none 0 0] 54)):=by
 refine⟨((dC (w.alloc (Obj.cells #[ae k,ae a] 184)) (Obj.cells #[ae 0,ae 0,ag ⟨#[]⟩,af none 0 0] 54) none).block _ (by simp) (by simp)).trans (aL w _),?_⟩;have:=aL (w.alloc (Obj.cells #[ae k,ae a] 184)) (Obj.cells #[ae 0,ae 0,ag ⟨#[]⟩,af none 0 0] 54);have es:∀o,(w.alloc o).heap.size=w.heap.size+1:=λo=>by simp
 rw[es]at this;exact this
theorem Cm(d:ap w w1/\w.heap.size+2<=w1.heap.size/\sW w.heap.size k z w1)(a:ap w1 w2):ap w w2/\w.heap.size+2<=w2.heap.size/\sW w.heap.size k z w2:=by
 obtain⟨b,e,c⟩:=d;have:=a.size;exact⟨b.trans (a.mono b.size),by omega,(a.block _ (by omega)).trans c.1,(a.block _ (by omega)).trans c.2⟩
theorem sW.cells(a:sW q k z w):w.cell? ⟨q,0,none⟩=some (ae k)/\w.cell? ⟨q,1,none⟩=some (ae z):=by
 obtain⟨b,_⟩:=a;refine⟨?_,?_⟩
 all_goals simp[World.cell?,b]
theorem Pc(n:Nat)(x:Tm (n+1))(c:cR)(k d:Int)(w:ah)(A:Hid (∀w1,ap w w1->au 186 #[.pointer (some ⟨c.b,c.o,none⟩),.agg #[ae k,ae d]] w1 λe w'=>e=aw (.bool true)/\ap w1 w'))(C:Hid (∀w1,ap w w1->au 187 #[.pointer (some ⟨c.b,c.o,none⟩),.agg #[ae k,ae d]] w1 λe w'=>∃y:Tm (n+1),e=aw (dG (n+1) y)/\Hid (ap w1 w'/\In w'.heap.size w' (n+1) y/\cG (λq=>w1.heap.size<=q) (n+1) y/\aK (n+1) y (n+1) x=true))):au 163 #[.pointer (some ⟨c.b,c.o,none⟩),.agg #[ae k,ae d]] w λe w'=>∃y:Tm (n+1),e=aw (ax #[dG (n+1) y,ae 0])/\Hid (ap w w'/\In w'.heap.size w' (n+1) y/\cG (λq=>w.heap.size<=q) (n+1) y/\aK (n+1) y (n+1) x=true):=by
 go_enter func163,ntmps163;go_wp2_with fail;generalize t:(w.alloc (Obj.cells #[ae k,ae d] 184)).alloc (Obj.cells #[ae 0,ae 0,ag ⟨#[]⟩,af none 0 0] 54)=m;have j:Hid (ap w m/\w.heap.size+2<=m.heap.size/\sW w.heap.size k d m):=by
  subst t;exact⟨(aW _ _).alloc (by simp) _,by simp,Nh _ _ _⟩
 clear t;refine(A _ j.1).mono ?_;rintro e w1 ⟨rfl,s⟩;have a:=av (Cm j s);obtain⟨t0,t1⟩:=a.out.2.2.cells;clear s j;go_wp2_with fail;refine(C _ a.1).mono ?_;rintro e p ⟨y,rfl,l⟩;have z:=av (Cm a l.1);obtain⟨⟨H,I,J,K⟩,f0⟩:=z.2.2.2.cells;have B:Hid (∀f g h i,ap w (dl p (w.heap.size+1) 0 f g h i)/\In (dl p (w.heap.size+1) 0 f g h i).heap.size (dl p (w.heap.size+1) 0 f g h i) (n+1) y/\cG (λq=>w.heap.size<=q) (n+1) y/\aK (n+1) y (n+1) x=true):=by
  intro f g h i;obtain⟨E,F,u,G⟩:=l.out;have L:=a.2.1;refine⟨F7 a.1 E f g h i,?_,u.mono λq D=>by omega,G⟩;rw[bK];exact In.off (λq D=>bz (by omega) _ _ _ _) u F
 have r:dG (n+1) y=aB y.1.1 y.1.2.1 y.1.2.2 y.2.1.1 y.2.2.length y.2.1.2:=rfl;rw[r];clear t0 t1 l a r;go_wp2_with fail;exact aE (v:=ax #[dG (n+1) y,ae 0]) (by simp[results,results163,go_sem,H,I,J,K,dG]) rfl ⟨y,rfl,B _ _ _ _⟩
theorem Fe{b:List u}(c:l <+:b)(a:l[i]?=some x):b[i]?=some x:=by
 obtain⟨d,rfl⟩:=c;rw[dO (bj.1 a).1];exact a
theorem ee.mono{ws l:List Wd}{nm k:bm}(d:ws <+:l)(j:nm <+:k):{n:Nat}->{x:Tm n}->{v:Wd}->ee ws nm n x v->ee l k n x v
 | 0,_,_,h=>h
 | n+1,x,v,h=>by
  obtain⟨a,b,c⟩:=h;refine⟨λe=>?_,λe=>?_,c⟩
  ·obtain⟨i,f,g⟩:=a e;exact⟨i,f,Fe j g⟩
  ·obtain⟨p,f,g,m,o⟩:=b e;refine⟨p,f,Fe d g,aG m d.length_le,λi y s=>?_⟩;obtain⟨t,q,r⟩:=o i y s;exact⟨t,Fe d q,r.mono d j⟩
theorem IP(nm:bm)(s:aq):nm <+:e9 nm s:=by
 unfold e9;split
 ·exact gR _
 ·exact qj _ _
theorem sn(f:∀(x:Tm n)(ws:List Wd)(nm:bm),ws <+:(bw n x ws nm).2.1/\nm <+:(bw n x ws nm).2.2)(l:List (Tm n))(ws:List Wd)(nm:bm):ws <+:(bY (bw n) l ws nm).2.1/\nm <+:(bY (bw n) l ws nm).2.2:=by
 induction l generalizing ws nm with
 | nil=>exact⟨gR _,gR _⟩
 | cons a l ih=>
  obtain⟨d,b⟩:=f a ws nm;obtain⟨c,e⟩:=ih (bw n a ws nm).2.1 (bw n a ws nm).2.2;exact⟨d.trans c,b.trans e⟩
theorem nh:(n:Nat)->(x:Tm n)->(ws:List Wd)->(nm:bm)->ws <+:(bw n x ws nm).2.1/\nm <+:(bw n x ws nm).2.2
 | 0,_,_,_=>⟨gR _,gR _⟩
 | n+1,x,ws,nm=>by
  by_cases c:x.1.1=2
  ·simp only[bw,if_pos c];exact⟨gR _,IP _ _⟩
  ·by_cases d:x.1.1=4
   ·simp only[bw,if_neg c,if_pos d];obtain⟨a,b⟩:=sn (nh n) x.2.2 ws nm;exact⟨a.trans (qj _ _),b⟩
   ·simp only[bw,if_neg c,if_neg d];exact⟨gR _,gR _⟩
theorem Lt(nm:bm)(s:aq):(e9 nm s)[lZ (e9 nm s) s]?=some s:=by
 have d:s∈e9 nm s:=by
  unfold e9;split
  ·rename_i b;exact(AC nm s).1 b
  ·simp
 have a:lZ (e9 nm s) s<(e9 nm s).length:=by
  unfold lZ;rw[List.findIdx_lt_length];exact⟨s,d,(pK s s).2 rfl⟩
 have c:(e9 nm s)[lZ (e9 nm s) s]'a=s:=(pK s _).1 (List.findIdx_getElem (w:=a));rw[aV a,c]
theorem o7(j:∀(x:Tm n)(ws:List Wd)(nm:bm),aM ⟨n,x⟩->ee (bw n x ws nm).2.1 (bw n x ws nm).2.2 n x (bw n x ws nm).1)(l:List (Tm n))(ws:List Wd)(nm:bm)(e:∀y∈l,aM ⟨n,y⟩):∀(i:Nat)(y:Tm n),l[i]?=some y->∃d,(bY (bw n) l ws nm).1[i]?=some d/\ee (bY (bw n) l ws nm).2.1 (bY (bw n) l ws nm).2.2 n y d:=by
 induction l generalizing ws nm with
 | nil=>intro i y a;simp at a
 | cons c l ih=>
  intro i y a;cases i with
  | zero=>
   simp at a;subst a;obtain⟨f,b⟩:=sn (nh n) l (bw n c ws nm).2.1 (bw n c ws nm).2.2;exact⟨(bw n c ws nm).1,rfl,(j c ws nm (e c (by simp))).mono f b⟩
  | succ i=>
   obtain⟨d,g,h⟩:=ih (bw n c ws nm).2.1 (bw n c ws nm).2.2 (λy a=>e y (by simp[a])) i y (by simpa using a);exact⟨d,by simpa [bY]using g,h⟩
theorem il:(n:Nat)->(x:Tm n)->(ws:List Wd)->(nm:bm)->aM ⟨n,x⟩->ee (bw n x ws nm).2.1 (bw n x ws nm).2.2 n x (bw n x ws nm).1
 | 0,_,_,_,h=>(dH h).elim
 | n+1,x,ws,nm,h=>by
  by_cases b:x.1.1=2
  ·have c:¬x.1.1=4:=by omega
   simp only[bw,if_pos b];exact⟨λ_=>⟨_,rfl,Lt _ _⟩,λa=>absurd a c,λa=>absurd b a⟩
  ·by_cases c:x.1.1=4
   ·simp only[bw,if_neg b,if_pos c];have j:=im (bw n) x.2.2 ws nm;refine⟨λa=>absurd a b,λ_=>⟨_,rfl,?_,?_,λe f d=>?_⟩,λ_ a=>absurd c a⟩
    ·rw[ft (aA _),iu];rfl
    ·simp only[br,bv,j];omega
    ·obtain⟨k,g,i⟩:=o7 (il n) x.2.2 ws nm (λf d=>bu n x f h d) e f d;refine⟨k,?_,i.mono (qj _ _) (gR _)⟩;rw[ft (by omega)];have:(bY (bw n) x.2.2 ws nm).2.1.length+1+e-(bY (bw n) x.2.2 ws nm).2.1.length=e+1:=by omega
     rw[this];simpa using g
   ·simp only[bw,if_neg b,if_neg c];exact⟨λa=>absurd a b,λa=>absurd a c,λ_ _=>rfl⟩
def Bm(q:Nat)(w:ah):Prop:=w.heap[q]?=some (.cells #[ae 0,ae 0] 184)
theorem Bm.facts(a:Bm q w):(w.cell? ⟨q,0,none⟩=some (ae 0)/\w.cell? ⟨q,1,none⟩=some (ae 0))/\w.frozen? ⟨q,0,none⟩=false/\w.frozen? ⟨q,1,none⟩=false:=by
 unfold Bm at a;refine⟨⟨?_,?_⟩,?_,?_⟩
 all_goals simp[World.cell?,World.frozen?,a]
theorem Dq{x:Tm n}{v:Wd}(h:ee ws nm n x v)(r:aM ⟨n,x⟩)(g:aY n x=true)(t:ws.length<=100000)(s:nm.length<=100000):df ws nm v=true/\dp v.2:=by
 cases n with
 | zero=>exact h.elim
 | succ n=>
 have d:=r (bR n x) (by simp[aI,bR]);have i:=lh (bR n x) d;simp only[bR]at i;simp only[aY,aT,p8,dM]at g;obtain⟨m,b,c⟩:=h;by_cases e:x.1.1=2
 ·obtain⟨k,rfl,p⟩:=m e;have j:=(bj.1 p).1;refine⟨?_,?_⟩
  ·simp[df,wb,j]
  ·unfold dp;show (-9223372036854775808:Int)<=(k:Int)/\(k:Int)<=9223372036854775807;omega
 ·by_cases f:x.1.1=4
  ·obtain⟨l,rfl,q,j,_⟩:=b f;refine⟨?_,?_⟩
   ·simp[df,gu,q]
   ·unfold dp;show (-9223372036854775808:Int)<=(l:Int)/\(l:Int)<=9223372036854775807;omega
  ·obtain rfl:=c e f;refine⟨?_,(vY _ d).2⟩;have o:x.1.1=1\/x.1.1=3:=by
    rcases i with a|a|a|a|a|a
    ·exact ak a
    ·exact absurd a e
    ·exact am a
    ·exact absurd a f
    ·exact absurd a g.1.1
    ·exact absurd a.1 g.1.2
   unfold cN at d;simp only[bR]at d;rcases o with a|a
   ·simp[df,a]at d ⊢;exact d.1.2
   ·simp[df,a]at d ⊢;exact d.1.2
theorem KV(n:Nat)(x:Tm n)(v:Wd)(base:Nat)(a:cR)(room:Int)(ws:List Wd)(nm:bm)(M:aX)(w:ah)(h:ed base a room ws nm M w)(d:ee ws nm n x v)(j:aM ⟨n,x⟩)(m:aY n x=true)(f:ws.length<=100000)(i:nm.length<=100000):au 163 #[.pointer (some ⟨a.b,a.o,none⟩),JT v] w λe w'=>∃y:Tm n,e=aw (ax #[dG n y,ae 0])/\Hid (ap w w'/\In w'.heap.size w' n y/\cG (λq=>w.heap.size<=q) n y/\aK n y n x=true):=by
 cases n with
 | zero=>exact d.elim
 | succ n=>
 obtain⟨l,p⟩:=Dq d j m f i;refine Pc n x a v.1 v.2 w ?_ ?_
 ·intro g c;have k:=xe base a room ws nm _ v g (h.later c) f p;rw[l]at k;exact k
 ·exact λg c=>Me (n+1) x v base a room ws nm _ g (h.later c) f i d j
abbrev dw:=List (Nat×Nat)
def look(g:dw)(p:Nat):Option Nat:=(g.find? λe=>e.1==p).map λe=>e.2
theorem tB(g:dw)(p q:Nat):look ((p,q)::g) p=some q:=by simp[look]
theorem rh(g:dw){r:Nat}(q:Nat)(a:r≠p):look ((p,q)::g) r=look g r:=by
 have:(p==r)=false:=by simp;omega
 simp[look,this]
def ij(f:Wd->List Wd×dw->Wd×List Wd×dw):List Wd->List Wd×dw->List Wd×List Wd×dw
 | [],S=>([],S)
 | v::l,S=>((f v S).1::(ij f l (f v S).2).1,(ij f l (f v S).2).2)
def ky(ws:List Wd):Nat->Wd->List Wd×dw->Wd×List Wd×dw
 | 0,v,S=>(v,S)
 | n+1,v,S=>
  if v.1=4 then
   match look S.2 v.2.toNat with
   | some q=>((4,(q:Int)),S)
   | none=>
    match ws[v.2.toNat]? with
    | some a=>((4,((ij (ky ws n) ((ws.drop (v.2.toNat+1)).take a.2.toNat) S).2.1.length:Int)),(ij (ky ws n) ((ws.drop (v.2.toNat+1)).take a.2.toNat) S).2.1++(0,a.2)::(ij (ky ws n) ((ws.drop (v.2.toNat+1)).take a.2.toNat) S).1,(v.2.toNat,(ij (ky ws n) ((ws.drop (v.2.toNat+1)).take a.2.toNat) S).2.1.length)::(ij (ky ws n) ((ws.drop (v.2.toNat+1)).take a.2.toNat) S).2.2)
    | none=>(v,S)
  else (v,S)
theorem Kv(f:Wd->List Wd×dw->Wd×List Wd×dw)(l:List Wd)(v:Wd)(S:List Wd×dw):ij f (l++ [v]) S=((ij f l S).1++ [(f v (ij f l S).2).1],(f v (ij f l S).2).2):=by
 induction l generalizing S with
 | nil=>simp[ij]
 | cons a l ih=>simp[ij,ih]
theorem qR(f:Wd->List Wd×dw->Wd×List Wd×dw)(l:List Wd)(S:List Wd×dw):(ij f l S).1.length=l.length:=by
 induction l generalizing S with
 | nil=>simp[ij]
 | cons a l ih=>simp[ij,ih]
def vp(D:DataW Unit)(g:dw):Prop:=∀p:Nat,(Maps.has D (.int .i64 p)=true ↔ (look g p).isSome=true)/\∀q:Nat,look g p=some q->D.atKey (.int .i64 p) (.lit (.int .i64 0))=.lit (.int .i64 q)
theorem Mw:vp (.map []) []:=λp=>⟨by simp[Maps.has,look],λq a=>by simp[look]at a⟩
theorem Gy(k:Int):WideAt.IsKeyLit (.int .i64 k):=by first|trivial|simp[WideAt.IsKeyLit]|decide
theorem Mx{w:World}{g:dw}(h:w.ownsMap Tryz.prog 3 (plainElem Tryz.prog 3) d L D)(f:vp D g)(p q:Nat):vp (D.put (.int .i64 p) (.lit (.int .i64 q))) ((p,q)::g):=by
 intro c;by_cases b:c=p
 ·subst b;refine⟨?_,λj a=>?_⟩
  ·rw[has_put_same h.isMap (Gy _),tB];simp
  ·rw[tB]at a;rw[atKey_put_same h.isMap (Gy _),aJ a]
 ·have i:(Lit.int .i64 (c:Int))≠(Lit.int .i64 (p:Int)):=λe=>b (by injection e with _ e;omega);refine⟨?_,λj a=>?_⟩
  ·rw[has_put_other i,rh g q b];exact(f c).1
  ·rw[rh g q b]at a;rw[atKey_put_other i];exact(f c).2 j a
theorem EG:Keyed Tryz.prog 3:=int_keyed underlying3
def CB(a:Nat)(b tv mv:Value)(w:World):Prop:=w.heap[a]?=some (.cells #[b,tv,mv] 333)
theorem CB.lt{tv:Value}{w:World}(a:CB d t tv mv w):d<w.heap.size:=(aS.1 a).1
theorem CB.cells{tv:Value}{w:World}(a:CB d t tv mv w):(w.cell? ⟨d,0,none⟩=some t/\w.cell? ⟨d,1,none⟩=some tv/\w.cell? ⟨d,2,none⟩=some mv)/\∀j,w.frozen? ⟨d,j,none⟩=false:=by
 unfold CB at a;refine⟨⟨?_,?_,?_⟩,λj=>?_⟩
 all_goals simp[World.cell?,World.frozen?,a]
theorem CB.set1{tv:Value}{w:World}(a:CB d t tv mv w)(v:Value):CB d t v mv (w.setCell ⟨d,1,none⟩ v):=by
 unfold CB at*;simp[World.setCell,bS,a]
theorem CB.kept{a:Nat}{b tv mv:Value}{w w':World}(c:CB a b tv mv w)(k:w'.heap[a]?=w.heap[a]?):CB a b tv mv w':=k.trans c
def iS(base e:Nat)(f:Value)(S:List Wd×dw)(M:Nat->Prop)(w:World):Prop:=
 ∃c a d,CB e f c (.map (some a)) w/\w.ownsRow base 184 2 c S.1.length (bA S.1)/\w.ownsMap Tryz.prog 3 (plainElem Tryz.prog 3) a S.2.length d/\vp d S.2/\M e/\(∀b,c.ownBlock=some b->M b)/\M a
theorem iS.kept{base a:Nat}{g:Value}{S:List Wd×dw}{M T:Nat->Prop}{w w':World}(q:iS base a g S M w)(k:co T w w')(d:∀b,M b->b<w.heap.size->¬T b):iS base a g S M w':=by
 obtain⟨u,e,o,c,h,i,r,j,l,m⟩:=q;refine⟨u,e,o,c.kept (k.block a c.lt (d a j c.lt)),eA h k λb f=>d b (l b f) (h.lt b f).2,?_,r,j,l,m⟩;have n:=i.lt;obtain⟨es,p,s,t⟩:=i;exact⟨es,p,(k.block e n (d e m n)).trans s,t⟩
variable{S:List Wd×dw}
theorem iS.inside{w:World}(h:iS base d t S M w):iS base d t S (λb=>M b/\b<w.heap.size) w:=by
 obtain⟨n,m,g,c,e,f,i,j,k,l⟩:=h;exact⟨n,m,g,c,e,f,i,⟨j,c.lt⟩,λb a=>⟨k b a,(e.lt b a).2⟩,l,f.lt⟩
theorem iS.later{w wA:World}(a:iS base d t S M w)(c:Below w.heap.size w wA):iS base d t S (λb=>M b/\b<w.heap.size) wA:=
 a.inside.kept (bC c (λ_=>False)) λ_ _ _ a=>a
theorem iS.mono{T:Nat->Prop}{w:World}(e:iS base d t S M w)(k:∀b,M b->T b):iS base d t S T w:=by
 obtain⟨o,n,a,f,g,h,i,j,l,m⟩:=e;exact⟨o,n,a,f,g,h,i,k _ j,λb c=>k b (l b c),k _ m⟩
theorem Lx(b:Nat)(k a:Int)(w:World)(c:¬k=4):Calls Tryz.prog 251 #[.pointer (some ⟨b,0,none⟩),.agg #[.int .i64 k,.int .i64 a]] w λe w'=>e=.returned (.agg #[.int .i64 k,.int .i64 a])/\Below w.heap.size w w':=by
 have d:(k !=4)=true:=by simpa using c
 go_enter func251,ntmps251;go_wp2_with fail;exact aE (v:=.agg #[.int .i64 k,.int .i64 a]) (by simp[results,results251,go_sem]) rfl ⟨rfl,by go_grown⟩
theorem Oh{g:dw}(b:vp D g){c:Int}(d:look g p=some q)(a:D.atKey (.int .i64 p) (.lit (.int .i64 0))=.lit (.int .i64 c)):c=q:=by
 have:=(b p).2 q d;rw[this]at a;simp at a;exact a.symm
theorem NI(base g:Nat)(x:Value)(S:List Wd×dw)(M:Nat->Prop)(p q:Nat)(w:World)(a:Hid (iS base g x S M w))(r:Hid (look S.2 p=some q))(N:p<=100000):Calls Tryz.prog 251 #[.pointer (some ⟨g,0,none⟩),.agg #[.int .i64 4,.int .i64 p]] w λe w'=>e=.returned (.agg #[.int .i64 4,.int .i64 q])/\Below w.heap.size w w':=by
 go_enter func251,ntmps251;go_wp2_with fail;generalize h:(w.alloc (Obj.cells #[Value.int IntKind.i64 4,Value.int IntKind.i64 p] 184)).alloc (Obj.cells #[.int .i64 0,.int .i64 0] 184)=wA;have j:Hid (Below w.heap.size w wA.drew/\wA.drew.heap.size=w.heap.size+2):=by
  subst h;exact⟨(((aH _ _).alloc (aA _) _).alloc (by simp) _).drew,by simp[World.drew]⟩
 have K:wA.cell? ⟨w.heap.size,1,none⟩=some (.int .i64 p):=by subst h;simp[go_sem]
 have l:Hid (Bm (w.heap.size+1) wA.drew):=by
  subst h;have:=aL (w.alloc (Obj.cells #[Value.int IntKind.i64 4,Value.int IntKind.i64 p] 184)) (Obj.cells #[.int .i64 0,.int .i64 0] 184);have es:∀o,(w.alloc o).heap.size=w.heap.size+1:=λo=>by simp
  rw[es]at this;exact this
 obtain⟨d,J,D⟩:∃d,wA.cell? ⟨g,2,none⟩=some (.map (some d))/\(Instr.lookup 331 (.map (some d)) (.int .i64 p) true).run Tryz.prog wA.drew=.ok (.tuple #[.int .i64 q,.bool true]) wA.drew:=by
  obtain⟨O,d,t,y,L,z,m,_⟩:=a.out.later j.1;obtain⟨v,ps,s,E⟩:=z.look_ok EG underlying331 (sT _) (plainElem_int underlying3 (iP (by omega))) (keyOf_int_mk underlying3 (iP (n:=(p:Int)) (by omega)));obtain⟨c,rfl,B,_⟩:=plainElem_int_inv underlying3 E;have e:=Oh m r (congrArg Prod.fst B);have C:Maps.has t (.int .i64 p)=true:=(m p).1.2 (by rw[r.out];rfl);rw[C,e]at s;exact⟨d,y.cells.1.2.2,s⟩
 clear h a;go_region_held3 (λw'=>w'.cell? ⟨w.heap.size,1,none⟩=some (.int .i64 p)/\w'.cell? ⟨g,2,none⟩=some (.map (some d))) (go_keep) (fail);obtain⟨⟨H,I⟩,f0,f1⟩:=l.out.facts;have u:Hid (∀i k,Below w.heap.size w ((wA.drew.setCell ⟨w.heap.size+1,0,none⟩ i).setCell ⟨w.heap.size+1,1,none⟩ k)):=by
  intro i k;have F:=bJ wA.drew (w.heap.size+1) 0 i;have G:=bJ (wA.drew.setCell ⟨w.heap.size+1,0,none⟩ i) (w.heap.size+1) 1 k;have f:=(bC j.1 (λb=>b=w.heap.size+1)).trans (F.trans G (λb _ a=>a)) (λb _ a=>a);exact⟨f.os,f.tape,f.output,f.size,λb A=>f.block b A (by omega)⟩
 clear D l j;generalize wA.drew=P at*;go_wp2_with fail;exact aE (v:=.agg #[.int .i64 4,.int .i64 q]) (by simp[results,results251,go_sem,H,I]) rfl ⟨rfl,u _ _⟩
def xT(base a:Nat)(c:az)(S:List Wd×dw)(M:aX)(w w':ah):Prop:=iS base a c S (λb=>M b\/w.heap.size<=b) w'/\co M w w'
def zE(f:Wd->List Wd×dw->Wd×List Wd×dw)(vs:List Wd)(len base c:Nat)(d:az)(S:List Wd×dw)(M:aX)(g:Nat)(w a:ah)(k:Nat)(wr:ah):Prop:=
 wr.ownsRow g 184 2 (af (some ⟨g,0,none⟩) len len) len (bA ((ij f (vs.take k) S).1++List.replicate (len-k) (0,0)))/\
 iS base c d (ij f (vs.take k) S).2 (λb=>(M b/\b<w.heap.size)\/a.heap.size<=b) wr/\
 co (λb=>(M b/\b<w.heap.size)\/b=g) a wr
variable{f:Wd->List Wd×dw->Wd×List Wd×dw}
theorem Ka{M:aX}(e:iS base d j S M w)(g:w0.ownsRow w.heap.size 184 2 (af (some ⟨w.heap.size,0,none⟩) len len) len (madeCells (Value.agg #[ae 0,ae 0]).cells (len*2)).toList)(a:w.grownBy w0 none):zE f vs len base d j S M w.heap.size w w0 0 w0/\ap w w0/\w.heap.size<w0.heap.size:=by
 have c:ap w w0:=⟨a.os,a.tape,a.output,a.size,λb c=>a.block b c (by simp)⟩;refine⟨⟨?_,?_,co.refl _ _⟩,c,(g.lt _ rfl).2⟩
 ·simp only[List.take_zero,ij,nL,Nat.sub_zero];have h:=wG len;have i:(Value.agg #[ae 0,ae 0]).cells= #[ae 0,ae 0]:=rfl;rw[i,h]at g;exact g
 ·simp only[List.take_zero,ij];exact(e.later c).mono λb e=>ak e
theorem zE.step{M:aX}{k:Nat}(H:zE f vs len base d j S M g w B k wr)(G:w.heap.size<=g)(I:g<B.heap.size)(K:k<len)(L:vs.length=len){v:Wd}(z:vs[k]?=some v)(l:ap wr w1)(y:xT base d j (f v (ij f (vs.take k) S).2).2 (λb=>((M b/\b<w.heap.size)\/B.heap.size<=b)/\b<wr.heap.size) w1 w2):zE f vs len base d j S M g w B (k+1) ((w2.setCell ⟨g,k*2,none⟩ (ae (f v (ij f (vs.take k) S).2).1.1)).setCell ⟨g,k*2+1,none⟩ (ae (f v (ij f (vs.take k) S).2).1.2))/\ (ai w2 g (k*2) (ae 0)/\ai w2 g (k*2+1) (ae 0))/\w2.frozen? ⟨g,k*2,none⟩=false/\w2.frozen? ⟨g,k*2+1,none⟩=false:=by
 obtain⟨n,E,o⟩:=H;obtain⟨t,p⟩:=y;have J:g<wr.heap.size:=(n.lt g rfl).2;have N:=l.size;have O:=o.size;have q:ij f (vs.take (k+1)) S=((ij f (vs.take k) S).1++ [(f v (ij f (vs.take k) S).2).1],(f v (ij f (vs.take k) S).2).2):=by
  rw[dL,z];exact Kv _ _ _ _
 have r:(ij f (vs.take k) S).1.length=k:=by rw[qR,du];omega
 have h:w2.ownsRow g 184 2 (af (some ⟨g,0,none⟩) len len) len (bA ((ij f (vs.take k) S).1++List.replicate (len-k) (0,0))):=by
  refine eA (dV n l) p λb i=>?_;simp only[Value.ownBlock]at i;obtain rfl:=aJ i;omega
 generalize ij f (vs.take k) S=e at*;generalize f v e.2=c at*;have A:(e.1++List.replicate (len-k) (0,0))[k]?=some ((0,0):Wd):=by
  rw[ft (by omega),r,iu,List.getElem?_replicate];simp;omega
 have C:=bJ w2 g (k*2) (ae c.1.1);have D:=bJ (w2.setCell ⟨g,k*2,none⟩ (ae c.1.1)) g (k*2+1) (ae c.1.2);have s:=C.trans D (λb _ a=>a);refine⟨⟨?_,?_,?_⟩,jw h k (0,0) A,pS h _,pS h _⟩
 ·rw[q];have m:=jP (jP h (k*2) (ae c.1.1)) (k*2+1) (ae c.1.2);rw[rJ _ k c.1 (by simp;omega)]at m;have es:(e.1++List.replicate (len-k) ((0,0):Wd)).set k c.1=(e.1++ [c.1])++List.replicate (len-(k+1)) (0,0):=by
   rw[iM _ _ (by omega)];have:len-k=(len-(k+1))+1:=by omega
   rw[this,List.replicate_succ];simp[r]
  rw[es]at m;exact m
 ·rw[q];refine(t.kept s ?_).mono ?_
  ·rintro b (⟨a,_⟩|a) _ i<;>omega
  ·rintro b (⟨a,_⟩|a)
   ·exact a
   ·exact am (by omega)
 ·have u:co (λb=>(M b/\b<w.heap.size)\/b=g) B w1:=o.trans (bC l (λ_=>False)) (λ_ _ a=>a.elim)
  have x:co (λb=>(M b/\b<w.heap.size)\/b=g) B w2:=u.trans p (λb F a=>by
   rcases a.1 with a|a
   ·exact ak a
   ·omega)
  exact x.trans s (λb _ a=>am a)
def DS(f:Wd->List Wd×dw->Wd×List Wd×dw)(vs:List Wd)(base c:Nat)(d:az)(S:List Wd×dw)(M:aX)(g:Nat)(w w':ah):Prop:=
 ∃a,iS base c d (ij f vs S).2 a w'/\co M w w'/\(∀b,a b->M b\/w.heap.size<=b)/\¬a g/\w.heap.size<=g/\w'.ownsRow g 184 2 (af (some ⟨g,0,none⟩) vs.length vs.length) vs.length (bA (ij f vs S).1)
theorem zE.done{M:aX}(H:zE f vs len base d j S M g w B len wr)(l:vs.length=len)(k:w.heap.size<=g)(n:g<B.heap.size)(h:ap w B):DS f vs base d j S M g w wr:=by
 obtain⟨c,e,i⟩:=H;rw[bI (by omega)]at c e;rw[iu,nN,eF]at c;subst l;refine⟨_,e,(bC h M).trans i ?_,?_,?_,k,c⟩
 ·rintro b m (a|a)
  ·exact a.1
  ·omega
 ·rintro b (a|a)
  ·exact ak a.1
  ·exact am (by have:=h.size;omega)
 ·rintro (a|a)<;>omega
theorem zX(f:Wd->List Wd×dw->Wd×List Wd×dw)(vs:List Wd)(base d:Nat)(i:az)(S:List Wd×dw)(M:aX)(a:ay)(len pc:Nat)(w:ah)(s:Hid (vs.length=len))(W:len<=100000)(c:Hid (iS base d i S M w))(D:Hid (fj w vs a))(G:Hid (∀b o,a=some ⟨b,o,none⟩->¬M b))(ih:Hid (∀(k:Nat)(v:Wd),vs[k]?=some v->∀(M':aX)(w1:ah),iS base d i (ij f (vs.take k) S).2 M' w1->co M w w1->(∀b,M' b->M b\/w.heap.size<=b)-> au 251 #[aF d,.agg #[ae v.1,ae v.2]] w1 λe w2=>e=aw (.agg #[ae (f v (ij f (vs.take k) S).2).1.1,ae (f v (ij f (vs.take k) S).2).1.2])/\Hid (xT base d i (f v (ij f (vs.take k) S).2).2 M' w1 w2))):au 248 #[aF d,af a len pc] w λe w'=>∃g,e=aw (af (some ⟨g,0,none⟩) len len)/\Hid (DS f vs base d i S M g w w'):=by
 obtain⟨P,hit,I,J,K⟩:=bT lV;go_enter func248,ntmps248;go_wp2_with (at_make;refine lN _ rfl _ _ 187 rfl w.heap.size 184 P _ 2 underlying187 hit I J _ _ _ _ len rfl rfl rfl rfl (by rw[K];omega) (by unfold maxLen;omega) (aA _) ?_;intro p H C;have m:=av (Ka (f:=f) (vs:=vs) c H C);clear H C);clear hit I J K;have y:Hid (zE f vs len base d i S M w.heap.size w p 0 p):=m.1;have B:w.heap.size<p.heap.size:=m.2.2;go_loopw [13] (λj wr=>∃k:Nat,k<=len/\j=ae k/\Hid (zE f vs len base d i S M w.heap.size w p k wr)) (λj _=>len-(intOf j).toNat)
 case atStart=>exact⟨0,by omega,rfl,y⟩
 case round=>
  clear y;obtain⟨k,T,rfl,h⟩:=hrel;by_cases F:k<len
  ·obtain⟨v,l⟩:∃v,vs[k]?=some v:=⟨vs[k]'(by rw[s.out];exact F),aV _⟩;obtain⟨b,o,rfl,A,L⟩:∃b o,a=some ⟨b,o,none⟩/\b<w.heap.size/\∀(j:Nat)(v:Wd),vs[j]?=some v->ai w b (o+j*2) (ae v.1)/\ai w b (o+j*2+1) (ae v.2):=by
    rcases D.out with e|e
    ·rw[e]at l;simp at l
    ·exact e
   obtain⟨t,u⟩:=L k v l;have r:wr.heap[b]?=w.heap[b]? :=(h.2.2.block b (by omega) (by rintro (c|c);exact G b o rfl c.1;omega)).trans (m.2.1.block b A);replace t:=(bN r (o+k*2)).trans t;replace u:=(bN r (o+k*2+1)).trans u;have R:w.heap.size<wr.heap.size:=(h.1.lt _ rfl).2;have X:=h.2.2.size;have E:co M w wr:=(bC m.2.1 M).trans h.2.2 (by rintro b A (c|c);exact c.1;omega)
   obtain⟨n,x⟩:∃n:Wd,Hid (∀w1,ap wr w1->au 251 #[aF d,.agg #[ae v.1,ae v.2]] w1 λe w2=>e=aw (.agg #[ae n.1,ae n.2])/\
       Hid (zE f vs len base d i S M w.heap.size w p (k+1) ((w2.setCell ⟨w.heap.size,k*2,none⟩ (ae n.1)).setCell ⟨w.heap.size,k*2+1,none⟩ (ae n.2))/\
        (ai w2 w.heap.size (k*2) (ae 0)/\ai w2 w.heap.size (k*2+1) (ae 0))/\w2.frozen? ⟨w.heap.size,k*2,none⟩=false/\w2.frozen? ⟨w.heap.size,k*2+1,none⟩=false)):=by
    refine⟨(f v (ij f (vs.take k) S).2).1,λw1 q=>?_⟩;refine(ih k v l _ w1 (h.2.1.later q) (E.trans (bC q M) (λ_ _ c=>c)) ?_).mono ?_
    ·rintro b ⟨c|c,_⟩
     ·exact ak c.1
     ·exact am (by omega)
    ·rintro e w2 ⟨rfl,O⟩;exact⟨rfl,h.step (aA _) B F s l q O⟩
   clear ih h D L l G r E;have U:(0:Int)<=(k:Int):=by omega
   have V:(k:Int)<(len:Int):=by omega
   have Q:b<wr.heap.size:=by omega
   go_wp2_with fail;refine(x _ (aW _ _)).mono ?_;rintro e w2 ⟨rfl,z⟩;obtain⟨⟨d0,d1⟩,f0,f1⟩:=z.out.2;clear x t u;go_wp2_with fail;go_roundw
   case rel=>exact⟨k+1,by omega,by go_num,z.1⟩
   case measure=>simp[intOf];omega
  ·obtain rfl:k=len:=by omega
   have N:=av (h.done s (aA _) B m.2.1);clear h ih;go_wp2_with fail
   go_ret
   exact⟨_,rfl,N⟩
theorem LP{mv:az}(c:w.ownsRow base e s v n xs)(g:CB d j tv mv w)(i:e≠333):v.ownBlock≠some d:=λe=>by
 rcases c.2 with⟨rfl,_⟩|⟨b,cap,k,rfl,_,h,_⟩
 ·simp[Value.ownBlock]at e
 ·simp[Value.ownBlock]at e;subst e;have a:w.heap[b]?=_:=g;rw[h]at a;injection a with a;injection a with a f;exact i f
theorem C8(c:w.ownsRow base e s v n xs)(f:w.ownsMap Tryz.prog 3 (plainElem Tryz.prog 3) d L D):v.ownBlock≠some d:=λa=>by
 rcases c.2 with⟨rfl,_⟩|⟨g,cap,j,rfl,_,h,_⟩
 ·simp[Value.ownBlock]at a
 ·simp only[Value.ownBlock]at a;obtain rfl:=aJ a;obtain⟨es,i,b,_⟩:=f;rw[h]at b;cases b
theorem wK{mv:az}(c:w.ownsMap Tryz.prog 3 (plainElem Tryz.prog 3) d L D)(b:CB A j tv mv w):d≠A:=by
 rintro rfl;obtain⟨es,f,e,_⟩:=c;have a:w.heap[d]?=_:=b;rw[e]at a;cases a
theorem QI(base d:Nat)(n:az)(S:List Wd×dw)(M:aX)(ps:List Wd)(m pc:Nat)(pa:ay)(w:ah)(z:iS base d n S M w)(E:base<=w.heap.size)(C:S.1.length<=100000)(I:ps.length=m)(D:m<=1000)(u:∀w1,co M w w1->fB w1 ps pa):au 176 #[.pointer (some ⟨d,1,none⟩),af pa m pc] w λe w'=>e=aw (.agg #[ae 4,ae S.1.length])/\Hid (xT base d n (S.1++(0,(m:Int))::ps,S.2) M w w'):=by
 obtain⟨q,p,s,a,f,g,A,h,i,B⟩:=z;obtain⟨⟨R,v,T⟩,F⟩:=a.cells;obtain⟨j,l,K⟩:∃j l,q=af j S.1.length l:=by
  rcases f.2 with⟨e,y⟩|⟨V,c,U,e,_⟩
  ·exact⟨none,0,by rw[e,y]⟩
  ·exact⟨_,c,e⟩
 subst I;refine(Bp base d 1 q j l S.1.length S.1 ps ps.length pc pa w K rfl rfl C D E v (F 1) a.lt (LP f a (by decide)) f ?_).mono ?_
 ·intro w1 k;refine u w1 (k.mono ?_);rintro b (rfl|e)
  ·exact h
  ·exact i b e
 ·rintro e w' ⟨rfl,r,t⟩;obtain⟨O,P,o,Q⟩:=t;refine⟨rfl,⟨r,p,s,(a.set1 r).kept P,?_,?_,A,ak h,?_,ak B⟩,o.mono ?_⟩
  ·have e:(S.1++(0,(ps.length:Int))::ps).length=S.1.length+1+ps.length:=by simp;omega
   rw[e];exact O
  ·have H:=g.lt;have L:=wK g a;have N:=C8 f g;obtain⟨es,x,G,J⟩:=g;refine⟨es,x,(o.block p H ?_).trans G,J⟩;rintro (e|e)
   ·exact L e
   ·exact N e
  ·intro b e;rcases Q b e with e|e
   ·exact ak (i b e)
   ·exact am e
  ·rintro b (rfl|e)
   ·exact h
   ·exact i b e
theorem NJ{w:World}(l:iS base d t S M w)(p q:Nat)(A:p<=100000)(B:q<=100000)(z:S.2.length<=100000):∃a,w.cell? ⟨d,2,none⟩=some (.map (some a))/\∃w4,(Instr.mapUpdate 331 (.map (some a)) (.int .i64 p) (.int .i64 q)).run Tryz.prog w=.ok () w4/\iS base d t (S.1,(p,q)::S.2) M w4/\co (λb=>b=a) w w4/\M a/\a<w.heap.size/\w4.cell? ⟨d,2,none⟩=some (.map (some a)):=by
 obtain⟨x,a,y,e,h,f,m,o,r,i⟩:=l;obtain⟨w4,v,u,s⟩:=f.update EG underlying331 (by unfold maxLen;omega) (keyOf_int_mk underlying3 (iP (n:=(p:Int)) (by omega))) (plainElem_int underlying3 (iP (n:=(q:Int)) (by omega)));have k:=EJ s;have g:co (λb=>b=a) w w4:=k.mono λb c=>(aJ c).symm;refine⟨a,e.cells.1.2.2,w4,v,⟨x,a,_,e.kept (g.block d e.lt (λc=>wK f e c.symm)),eA h g ?_,u,Mx f m p q,o,r,i⟩,g,i,f.lt,(e.kept (g.block d e.lt (λc=>wK f e c.symm))).cells.1.2.2⟩;intro b c j;subst j;exact C8 h f c
theorem Es(w:World)(a b:Int):(Instr.field 184 (.agg #[.int .i64 a,.int .i64 b]) 1).run Tryz.prog w=.ok (.int .i64 b) w:=by kernel_rfl
theorem NH(base a:Nat)(H:Value)(S:List Wd×dw)(M:Nat->Prop)(p q f L h n:Nat)(w:World)(u:World->Prop)(I:Hid (iS base a H S M w))(U:H=.slice (some ⟨f,0,none⟩) L h)(W:Hid (look S.2 p=none))(aq:p<=100000)(z:Hid (∀b,Below w.heap.size w b->w.heap.size+2<=b.heap.size->Calls Tryz.prog 218 #[.slice (some ⟨f,0,none⟩) L h,.int .i64 p] b λe w'=>w'=b/\∃o pc,e=.returned (.slice (some ⟨f,o,none⟩) n pc)/\ Hid (Calls Tryz.prog 248 #[.pointer (some ⟨a,0,none⟩),.slice (some ⟨f,o,none⟩) n pc] b λe w2=>∃g,e=.returned (.slice (some ⟨g,0,none⟩) n n)/\ Hid ((∀j,w2.cell? ⟨w.heap.size,j,none⟩=b.cell? ⟨w.heap.size,j,none⟩)/\w2.cell? ⟨a,0,none⟩=some (.slice (some ⟨f,0,none⟩) L h)/\ Calls Tryz.prog 176 #[.pointer (some ⟨a,1,none⟩),.slice (some ⟨g,0,none⟩) n n] w2 λe k=>e=.returned (.agg #[.int .i64 4,.int .i64 q])/\ Hid ((∀j,k.cell? ⟨w.heap.size,j,none⟩=b.cell? ⟨w.heap.size,j,none⟩)/\k.cell? ⟨a,0,none⟩=some (.slice (some ⟨f,0,none⟩) L h)/\ ∃d w4,k.cell? ⟨a,2,none⟩=some (.map (some d))/\(Instr.mapUpdate 331 (.map (some d)) (.int .i64 p) (.int .i64 q)).run Tryz.prog k.drew=.ok () w4/\(∀j,w4.cell? ⟨w.heap.size,j,none⟩=b.cell? ⟨w.heap.size,j,none⟩)/\w4.cell? ⟨a,2,none⟩=some (.map (some d))/\ (Bm (w.heap.size+1) b->Bm (w.heap.size+1) w4)/\∀v0 v1,u ((w4.setCell ⟨w.heap.size+1,0,none⟩ v0).setCell ⟨w.heap.size+1,1,none⟩ v1)))))):Calls Tryz.prog 251 #[.pointer (some ⟨a,0,none⟩),.agg #[.int .i64 4,.int .i64 p]] w λe w'=>e=.returned (.agg #[.int .i64 4,.int .i64 q])/\u w':=by
 subst U;go_enter func251,ntmps251;go_wp2_with fail;generalize t:(w.alloc (Obj.cells #[Value.int IntKind.i64 4,Value.int IntKind.i64 p] 184)).alloc (Obj.cells #[.int .i64 0,.int .i64 0] 184)=wA;have l:Hid (Below w.heap.size w wA.drew/\wA.drew.heap.size=w.heap.size+2):=by
  subst t;exact⟨(((aH _ _).alloc (aA _) _).alloc (by simp) _).drew,by simp[World.drew]⟩
 have G:wA.cell? ⟨w.heap.size,1,none⟩=some (.int .i64 p):=by subst t;simp[go_sem]
 have C:Hid (Bm (w.heap.size+1) wA.drew):=by
  subst t;have:=aL (w.alloc (Obj.cells #[Value.int IntKind.i64 4,Value.int IntKind.i64 p] 184)) (Obj.cells #[.int .i64 0,.int .i64 0] 184);have es:∀o,(w.alloc o).heap.size=w.heap.size+1:=λo=>by simp
  rw[es]at this;exact this
 obtain⟨d,F,E,P,X⟩:∃d,∃F:Int,wA.cell? ⟨a,0,none⟩=some (.slice (some ⟨f,0,none⟩) L h)/\wA.cell? ⟨a,2,none⟩=some (.map (some d))/\(Instr.lookup 331 (.map (some d)) (.int .i64 p) true).run Tryz.prog wA.drew=.ok (.tuple #[.int .i64 F,.bool false]) wA.drew:=by
  obtain⟨ar,d,x,J,ao,Q,R,_⟩:=I.out.later l.1;obtain⟨v,ps,K,Z⟩:=Q.look_ok EG underlying331 (sT _) (plainElem_int underlying3 (iP (by omega))) (keyOf_int_mk underlying3 (iP (n:=(p:Int)) (by omega)));obtain⟨c,rfl,ap,_⟩:=plainElem_int_inv underlying3 Z;have V:Maps.has x (.int .i64 p)=false:=by
   cases hx:Maps.has x (.int .i64 p)
   ·rfl
   ·have:=(R p).1.1 hx;rw[W.out]at this;simp at this
  rw[V]at K;exact⟨d,c,J.cells.1.1,J.cells.1.2.2,K⟩
 clear t I;go_region_held3 (λw'=>w'.cell? ⟨w.heap.size,1,none⟩=some (.int .i64 p)/\w'.cell? ⟨a,2,none⟩=some (.map (some d))) (go_keep) (fail);have s:wA.drew.cell? ⟨w.heap.size,1,none⟩=some (.int .i64 p):=G;have O:wA.drew.cell? ⟨a,0,none⟩=some (.slice (some ⟨f,0,none⟩) L h):=E;clear X G E P;generalize wA.drew=b at*;have B:=av (z b.drew l.1.drew (by have:=l.2;show w.heap.size+2<=b.heap.size;omega));clear z;have T:=Es;go_wp2_with fail
 go_region_held3 (λw'=>w'.cell? ⟨w.heap.size,1,none⟩=some (.int .i64 p)/\w'.cell? ⟨a,0,none⟩=some (.slice (some ⟨f,0,none⟩) L h)) (go_keep) ((first
  | (go_at_call 218;refine B.mono ?_;rintro e w2 ⟨rfl,o,pc,rfl,y⟩;clear B)
  | (go_at_call 248;refine y.mono ?_;rintro e w2 ⟨g,rfl,m⟩;have ak:=(m.1 1).trans s;have al:=m.2.1;clear y)
  | (go_at_call 176;refine m.2.2.mono ?_;rintro e k ⟨rfl,r⟩;have y1:=(r.1 1).trans s;have y2:=r.2.1;clear m)))
 obtain⟨i,w4,aj,Y,D,an,A,N⟩:∃i w4,k.cell? ⟨a,2,none⟩=some (.map (some i))/\(Instr.mapUpdate 331 (.map (some i)) (.int .i64 p) (.int .i64 q)).run Tryz.prog k.drew=.ok () w4/\Hid (∀j,w4.cell? ⟨w.heap.size,j,none⟩=b.drew.cell? ⟨w.heap.size,j,none⟩)/\w4.cell? ⟨a,2,none⟩=some (.map (some i))/\Hid (Bm (w.heap.size+1) w4)/\Hid (∀v0 v1,u ((w4.setCell ⟨w.heap.size+1,0,none⟩ v0).setCell ⟨w.heap.size+1,1,none⟩ v1)):=by
  obtain⟨i,w4,aa,ab,ad,ae,af,ag⟩:=r.out.2.2;exact⟨i,w4,aa,ab,ad,ae,af C,ag⟩
 have am:=(D 1).trans s;obtain⟨⟨ah,ai⟩,f0,f1⟩:=A.out.facts;clear r D A C l ak al y2 O s T;go_wp2_with fail;go_region_held3 (λw'=>w'.cell? ⟨w.heap.size,1,none⟩=some (.int .i64 p)/\w'.cell? ⟨a,2,none⟩=some (.map (some i))) (go_keep) (fail);clear Y aj y1 am an;go_wp2_with fail;exact aE (v:=.agg #[.int .i64 4,.int .i64 q]) (by simp[results,results251,go_sem,ah,ai]) rfl ⟨rfl,N _ _⟩
def cI(ws:List Wd)(p n:Nat):List Wd:=(ws.drop (p+1)).take n
theorem E8(a:i<n):(cI ws p n)[i]?=ws[p+1+i]? :=by
 unfold cI;rw[tW a,jy]
theorem mf(a:p+1+n<=ws.length):(cI ws p n).length=n:=by
 unfold cI;rw[du,eV];omega
def gX(ws:List Wd)(nm:bm)(n:Nat)(l:List Wd)(p:List (Tm n)):Prop:=l.length=p.length/\∀(i:Nat)(v:Wd)(y:Tm n),l[i]?=some v->p[i]?=some y->ee ws nm n y v
theorem vK{v:Wd}(a:v.1≠4):ky ws n v S=(v,S):=by
 cases n with
 | zero=>rfl
 | succ n=>simp[ky,a]
theorem Ge(a:look S.2 p=some q):ky ws (n+1) (4,(p:Int)) S=((4,(q:Int)),S):=by
 simp[ky,a]
theorem zY(a:look S.2 p=none)(b:ws[p]?=some (0,(m:Int))):ky ws (n+1) (4,(p:Int)) S= ((4,((ij (ky ws n) (cI ws p m) S).2.1.length:Int)),(ij (ky ws n) (cI ws p m) S).2.1++(0,(m:Int))::(ij (ky ws n) (cI ws p m) S).1,(p,(ij (ky ws n) (cI ws p m) S).2.1.length)::(ij (ky ws n) (cI ws p m) S).2.2):=by
 simp[ky,a,b,cI]
theorem pJ{ws:List Wd}{nm:bm}{n:Nat}(ih:∀(x:Tm n)(v:Wd)(S:List Wd×dw),ee ws nm n x v->((ky ws n v S).2.1.length:Int)<=S.1.length+sz n x/\(ky ws n v S).2.2.length<=S.2.length+(aI n x).length):(l:List Wd)->(p:List (Tm n))->(S:List Wd×dw)->gX ws nm n l p->((ij (ky ws n) l S).2.1.length:Int)+p.length<=S.1.length+(p.map λy=>1+sz n y).sum/\(ij (ky ws n) l S).2.2.length<=S.2.length+(p.flatMap λy=>aI n y).length
 | [],[],S,_=>by simp[ij]
 | [],_::_,_,h=>by have:=h.1;simp at this
 | _::_,[],_,h=>by have:=h.1;simp at this
 | v::l,y::p,S,h=>by
  obtain⟨e,f⟩:=ih y v S (h.2 0 v y rfl rfl);obtain⟨g,j⟩:=pJ ih l p (ky ws n v S).2 ⟨by have:=h.1;simpa using this,λi c d a b=>h.2 (i+1) c d (by simpa using a) (by simpa using b)⟩;simp only[ij,bB,dk,bM,br,bv];exact⟨by omega,by omega⟩
theorem ke{x:Tm (n+1)}{v:Wd}(i:ee ws nm (n+1) x v)(j:x.1.1=4):∃p:Nat,v=(4,(p:Int))/\ws[p]?=some (0,(x.2.2.length:Int))/\p+1+x.2.2.length<=ws.length/\gX ws nm n (cI ws p x.2.2.length) x.2.2:=by
 obtain⟨p,d,e,a,f⟩:=i.2.1 j;refine⟨p,d,e,a,mf a,λk o l b c=>?_⟩;obtain⟨m,g,h⟩:=f k l c;rw[E8 (bj.1 c).1,g]at b;obtain rfl:=aJ b;exact h
theorem jh{x:Tm (n+1)}{v:Wd}(a:ee ws nm (n+1) x v)(c:x.1.1≠4):v.1≠4:=by
 by_cases b:x.1.1=2
 ·obtain⟨d,rfl,_⟩:=a.1 b;simp
 ·rw[a.2.2 b c];exact c
theorem th{ws:List Wd}{nm:bm}:(n:Nat)->(x:Tm n)->(v:Wd)->(S:List Wd×dw)->ee ws nm n x v->((ky ws n v S).2.1.length:Int)<=S.1.length+sz n x/\(ky ws n v S).2.2.length<=S.2.length+(aI n x).length
 | 0,_,_,_,h=>h.elim
 | n+1,x,v,S,h=>by
  have k:=(fJ (n+1) x).1;by_cases c:x.1.1=4
  ·obtain⟨p,rfl,g,f,i⟩:=ke h c;cases hk:look S.2 p with
   | some q=>
    rw[Ge hk];exact⟨by simp only;omega,by simp only;omega⟩
   | none=>
    rw[zY hk g];obtain⟨a,b⟩:=pJ (λx v S d=>th n x v S d) (cI ws p x.2.2.length) x.2.2 S i;have e:=qR (ky ws n) (cI ws p x.2.2.length) S;rw[mf f]at e;have j:(aI (n+1) x).length=1+(x.2.2.flatMap λy=>aI n y).length:=by simp[aI];omega
    simp only[br,bv,e,sz,if_pos c,j];exact⟨by omega,by omega⟩
  ·rw[vK (jh h c)];exact⟨by simp only;omega,by simp only;omega⟩
def OL(ws:List Wd)(nm:bm)(n:Nat):Prop:=∀(x:Tm n)(v:Wd)(base c d:Nat)(a:az)(S:List Wd×dw)(M:aX)(w:ah),iS base c a S M w->w.ownsRow d 184 2 a ws.length (bA ws)->(∀b,a.ownBlock=some b->¬M b)->base<=w.heap.size->ee ws nm n x v->aM ⟨n,x⟩->ws.length<=100000->(S.1.length:Int)+sz n x<=90000->S.2.length+(aI n x).length<=90000->
 au 251 #[aF c,JT v] w λe w'=>e=aw (JT (ky ws n v S).1)/\Hid (xT base c a (ky ws n v S).2 M w w')
theorem N5(n:Nat)(p:List (Tm n))(k:Nat)(x:Tm n)(d:p[k]?=some x):((p.take k).map λy=>1+sz n y).sum+(1+sz n x)<=(p.map λy=>1+sz n y).sum:=by
 obtain⟨c,rfl⟩:=bj.1 d;have a:p=p.take k++p[k]::p.drop (k+1):=by
  rw[<-fq c,iN]
 have b:∀l:List (Tm n),0<=(l.map λy=>1+sz n y).sum:=by
  intro l
  induction l with
  | nil=>simp
  | cons y l ih=>
   have:=(fJ n y).1;simp only[bB,dk];omega
 have e:=b (p.drop (k+1))
 conv=>rhs;rw[a]
 simp only[fw,nO,bB,dk];omega
theorem gX.take{ws:List Wd}{nm:bm}{n:Nat}{l:List Wd}{p:List (Tm n)}(c:gX ws nm n l p)(k:Nat):gX ws nm n (l.take k) (p.take k):=by
 refine⟨by simp[c.1],λe f g a b=>?_⟩;rw[jz]at a b;split at a
 ·rename_i d;rw[if_pos d]at b;exact c.2 e f g a b
 ·cases a
theorem ua(ws:List Wd)(nm:bm)(n:Nat)(ih:OL ws nm n)(vs:List Wd)(p:List (Tm n))(base d l:Nat)(c:az)(S:List Wd×dw)(M:aX)(a:ay)(pc:Nat)(w:ah)(u:iS base d c S M w)(r:w.ownsRow l 184 2 c ws.length (bA ws))(m:∀b,c.ownBlock=some b->¬M b)(I:base<=w.heap.size)(j:gX ws nm n vs p)(E:∀y∈p,aM ⟨n,y⟩)(F:ws.length<=100000)(C:vs.length<=100000)(L:(S.1.length:Int)+(p.map λy=>1+sz n y).sum<=90000)(J:S.2.length+(p.flatMap λy=>aI n y).length<=90000)(A:fj w vs a)(D:∀b o,a=some ⟨b,o,none⟩->¬M b):au 248 #[aF d,af a vs.length pc] w λe w'=>∃g,e=aw (af (some ⟨g,0,none⟩) vs.length vs.length)/\Hid (DS (ky ws n) vs base d c S M g w w'):=by
 refine zX (ky ws n) vs base d c S M a vs.length pc w rfl C u A D ?_;intro k i s t G x q v;have B:=(bj.1 s).1;obtain⟨y,h⟩:∃y,p[k]?=some y:=⟨p[k]'(by rw[<-j.1];exact B),aV _⟩;obtain⟨P,Q⟩:=pJ (λH i S z=>th n H i S z) (vs.take k) (p.take k) S (j.take k);have N:=N5 n p k y h;have O:=Cw n p k y h;have K:=q.size;refine ih y i base d l c _ t G x (eA r q λb e=>m b e) ?_ (by omega) (j.2 k i y s h) (E y (aU h)) F (by omega) (by omega);intro b e f;rcases v b f with f|f
 ·exact m b e f
 ·have:=(r.lt b e).2;omega
theorem vE{M:aX}(a:iS base d j S M w)(b:ap w w'):xT base d j S M w w':=
 ⟨(a.later b).mono λ_ a=>ak a.1,bC b M⟩
theorem NK(ws:List Wd)(nm:bm)(n:Nat)(ih:OL ws nm n)(ps:List (Tm n))(p:Nat)(base i t:Nat)(l:az)(S:List Wd×dw)(M:aX)(w:ah)(c:iS base i l S M w)(F:w.ownsRow t 184 2 l ws.length (bA ws))(P:∀b,l.ownBlock=some b->¬M b)(aW:base<=w.heap.size)(aC:ws[p]?=some (0,(ps.length:Int)))(R:p+1+ps.length<=ws.length)(U:gX ws nm n (cI ws p ps.length) ps)(aD:∀y∈ps,aM ⟨n,y⟩)(aU:ps.length<=8)(V:ws.length<=100000)(aG:(S.1.length:Int)+(ps.map λy=>1+sz n y).sum<=90000)(aB:S.2.length+(ps.flatMap λy=>aI n y).length<=90000)(ax:look S.2 p=none):au 251 #[aF i,JT (4,(p:Int))] w λe w'=>e=aw (JT (4,((ij (ky ws n) (cI ws p ps.length) S).2.1.length:Int)))/\ Hid (xT base i l ((ij (ky ws n) (cI ws p ps.length) S).2.1++(0,(ps.length:Int))::(ij (ky ws n) (cI ws p ps.length) S).1,(p,(ij (ky ws n) (cI ws p ps.length) S).2.1.length)::(ij (ky ws n) (cI ws p ps.length) S).2.2) M w w'):=by
 obtain⟨d,u,Q,_,_⟩:=F.form (by omega);have E:=mf R;obtain⟨a3,a4⟩:=pJ (λaQ aN S ao=>th n aQ aN S ao) (cI ws p ps.length) ps S U;refine NH base i l S M p _ d ws.length u ps.length w _ c Q ax (by omega) ?_;intro Y j aV;subst Q;have aY:=(F.lt d rfl).2;have T:Y.ownsRow t 184 2 (af (some ⟨d,0,none⟩) ws.length u) ws.length (bA ws):=dV F j;refine(yP t d ws.length u p ps.length ws Y V T aC R).mono ?_;rintro e w' ⟨rfl,pa,pc,rfl,_,aE,o,rfl⟩;refine⟨rfl,o,pc,rfl,?_⟩;have aq:fj w' (cI ws p ps.length) (some ⟨d,o,none⟩):=DJ aE (by have:=j.size;omega);have O:=ua ws nm n ih (cI ws p ps.length) ps base i t (af (some ⟨d,0,none⟩) ws.length u) S _ (some ⟨d,o,none⟩) pc w' (c.later j) T (λb e a=>P b e a.1) (by have:=j.size;omega) U aD V (by omega) aG aB aq (λb a2 e a=>P b (by injection e with e;injection e with e;subst e;rfl) a.1);rw[E]at O;refine O.mono ?_;rintro e aP ⟨g,rfl,ab⟩;obtain⟨A,G,s,ad,ae,aR,H⟩:=ab;rw[E]at H;have v:∀b,A b->(M b/\b<w.heap.size)\/w'.heap.size<=b:=ad;have aZ:=s.size;refine⟨g,rfl,λm=>bN (s.block _ (by omega) (λa=>by omega)) m,?_,?_⟩
 ·obtain⟨aL,x,Z,q,_⟩:=G;exact q.cells.1.1
 refine(QI base i _ _ A (ij (ky ws n) (cI ws p ps.length) S).1 ps.length ps.length (some ⟨g,0,none⟩) aP G (by have:=j.size;omega) (by omega) (by rw[qR];exact E) (by omega) ?_).mono ?_
 ·intro a5 av;exact am ⟨_,rfl,(eA H av (λb e=>by simp only[Value.ownBlock]at e;obtain rfl:=aJ e;exact ae)).cells (g:=g) rfl⟩
 rintro e r ⟨rfl,aa⟩;obtain⟨I,B⟩:=aa;have a0:=B.size;have D:∀b,w.heap.size<=b->b<w.heap.size+2->¬A b:=λb f h a=>by
  rcases v b a with k|k<;>omega
 have L:∀b,w.heap.size<=b->b<w.heap.size+2->r.heap[b]?=w'.heap[b]? :=λb f h=>(B.block b (by omega) (D b f h)).trans (s.block b (by omega) (λa=>by omega));refine⟨rfl,λm=>bN (L _ (aA _) (by omega)) m,?_,?_⟩
 ·obtain⟨aL,x,Z,q,_⟩:=I;exact q.cells.1.1
 have bd:ap r r.drew:=(aH _ _).drew;have ag:=I.kept (bC bd (λ_=>False)) (λ_ _ _ c=>c);obtain⟨x,ai,z,aj,al,C,J,aS,an⟩:=NJ ag p (ij (ky ws n) (cI ws p ps.length) S).2.1.length (by omega) (by omega) (by simp only;omega);have ay:∀b,w.heap.size<=b->b<w.heap.size+2->b≠x:=λb f h e=>by
  subst e;rcases J with k|k
  ·exact D _ f h k
  ·omega
 have a1:=C.size;have aT:r.drew.heap.size=r.heap.size:=rfl;have N:∀b,w.heap.size<=b->b<w.heap.size+2->z.heap[b]?=w'.heap[b]? :=λb f h=>(C.block b (by omega) (ay b f h)).trans (L b f h);refine⟨x,z,ai,aj,λm=>bN (N _ (aA _) (by omega)) m,an,λar=>(N _ (by omega) (by omega)).trans ar,λX aO=>?_⟩;have q:=bJ z (w.heap.size+1) 0 X;have aK:=bJ (z.setCell ⟨w.heap.size+1,0,none⟩ X) (w.heap.size+1) 1 aO;have W:=q.trans aK (λb _ c=>c);refine⟨(al.kept W ?_).mono ?_,?_⟩
 ·rintro b (a|a) _ rfl
  ·exact D _ (by omega) (by omega) a
  ·omega
 ·rintro b (a|a)
  ·rcases v b a with k|k
   ·exact ak k.1
   ·exact am (by omega)
  ·exact am (by omega)
 ·refine(((((bC j M).trans s ?_).trans B ?_).trans (bC bd (λ_=>False)) ?_).trans C ?_).trans W ?_
  ·exact λb _ a=>a.1
  ·intro b K a;rcases v b a with k|k
   ·exact k.1
   ·omega
  ·exact λ_ _ c=>c.elim
  ·rintro b K rfl;rcases J with k|k
   ·rcases v _ k with k|k
    ·exact k.1
    ·omega
   ·omega
  ·intro b K c;omega
theorem NG(ws:List Wd)(nm:bm)(n:Nat):OL ws nm n:=by
 induction n with
 | zero=>intro a o i d p j c h g _ _ _ _ f;exact f.elim
 | succ n ih=>
  intro a o i d p j c h g e z v u f s B G F;have w:=s (bR n a) (by simp[aI,bR]);have y:a.2.2.length<=8:=nd (bR n a) w;have H:(aI (n+1) a).length=1+(a.2.2.flatMap λb=>aI n b).length:=by simp[aI];omega
  by_cases k:a.1.1=4
  ·obtain⟨m,rfl,r,x,A⟩:=ke f k;cases hk:look c.2 m with
   | some D=>
    rw[Ge hk];refine(NI i d j c h m D g e hk (by omega)).mono ?_;rintro q E ⟨rfl,l⟩;exact⟨rfl,vE e l⟩
   | none=>
    rw[zY hk r];have q:sz (n+1) a=1+(a.2.2.map λb=>1+sz n b).sum:=by simp only[sz,if_pos k]
    exact NK ws nm n ih a.2.2 m i d p j c h g e z v u r x A (λb C=>bu n a b s C) y B (by omega) (by omega) hk
  ·have t:=jh f k;rw[vK t];refine(Lx d o.1 o.2 g t).mono ?_;rintro q E ⟨rfl,l⟩;exact⟨rfl,vE e l⟩
theorem M0(w:ah)(a:az):iS w.heap.size (w.heap.size+1) a ([],[]) (λb=>w.heap.size<=b) ((w.alloc (.map #[] 0)).alloc (.cells #[a,af none 0 0,.map (some w.heap.size)] 333)):=by
 have e:=qm w Tryz.prog 3 (plainElem (H:=Unit) Tryz.prog 3);have es:∀o,(w.alloc o).heap.size=w.heap.size+1:=λo=>by simp
 have c:=aL (w.alloc (.map #[] 0)) (.cells #[a,af none 0 0,.map (some w.heap.size)] 333);rw[es]at c;exact⟨af none 0 0,w.heap.size,.map [],c,eX _ _ _ _,e.alloc _,Mw,by omega,λb d=>by simp[Value.ownBlock]at d,aA _⟩
def lO(R:List Wd×List Wd×dw)(len g:Nat)(tv:az)(w w':ah):Prop:=
 ap w w'/\w'.ownsRow w.heap.size 184 2 tv R.2.1.length (bA R.2.1)/\w'.ownsRow g 184 2 (af (some ⟨g,0,none⟩) len len) len (bA R.1)/\w.heap.size<=g/\tv.ownBlock≠some g
theorem AN(R:List Wd×List Wd×dw)(c:az)(d:ay)(L f:Nat)(a:ay)(len pc:Nat)(w:ah)(i:c=af d L f)(b:Hid (au 248 #[.pointer (some ⟨w.heap.size+1,0,none⟩),af a len pc] ((w.alloc (.map #[] 0)).alloc (.cells #[af d L f,af none 0 0,.map (some w.heap.size)] 333)) λe w'=>∃g tv,e=aw (af (some ⟨g,0,none⟩) len len)/\w'.cell? ⟨w.heap.size+1,1,none⟩=some tv/\Hid (lO R len g tv w w'))):au 241 #[c,af a len pc] w λe w'=>∃g tv,e=aw (ax #[tv,af (some ⟨g,0,none⟩) len len])/\Hid (lO R len g tv w w'):=by
 subst i;have j:= @run_makeMap Tryz.prog;go_enter func241,ntmps241;go_wp2_with fail;refine b.mono ?_;rintro e l ⟨g,tv,rfl,k,h⟩;clear b j;go_wp2_with fail;exact aE (v:=ax #[tv,af (some ⟨g,0,none⟩) len len]) (by simp[results,results241,go_sem]) rfl ⟨g,tv,rfl,h⟩
theorem C3(ws:List Wd)(nm:bm)(n:Nat)(vs:List Wd)(p:List (Tm n))(q:Nat)(d:az)(a:ay)(pc:Nat)(w:ah)(k:w.ownsRow q 184 2 d ws.length (bA ws))(G:gX ws nm n vs p)(F:∀y∈p,aM ⟨n,y⟩)(H:ws.length<=100000)(B:vs.length<=100000)(I:(p.map λy=>1+sz n y).sum<=90000)(D:(p.flatMap λy=>aI n y).length<=90000)(h:fj w vs a)(E:∀b o,a=some ⟨b,o,none⟩->b<w.heap.size):au 241 #[d,af a vs.length pc] w λe w'=>∃g tv,e=aw (ax #[tv,af (some ⟨g,0,none⟩) vs.length vs.length])/\Hid (lO (ij (ky ws n) vs ([],[])) vs.length g tv w w'):=by
 obtain⟨l,m,r⟩:∃l m,d=af l ws.length m:=by
  rcases k.2 with⟨e,x⟩|⟨g,c,R,e,_⟩
  ·exact⟨none,0,by rw[e,x]⟩
  ·exact⟨_,c,e⟩
 refine AN _ d l ws.length m a vs.length pc w r ?_;have f:ap w ((w.alloc (.map #[] 0)).alloc (.cells #[d,af none 0 0,.map (some w.heap.size)] 333)):=(aW _ _).alloc (by simp) _;have z:=M0 w d;have S:((w.alloc (.map #[] 0)).alloc (.cells #[d,af none 0 0,.map (some w.heap.size)] 333)).heap.size=w.heap.size+2:=by simp
 rw[<-r];generalize (w.alloc (.map #[] 0)).alloc (.cells #[d,af none 0 0,.map (some w.heap.size)] 333)=wA at*;have A:fj wA vs a:=by
  rcases h with h|⟨b,o,e,j,h⟩
  ·exact ak h
  ·exact am ⟨b,o,e,by omega,λt u s=>⟨(aC f b _ j).trans (h t u s).1,(aC f b _ j).trans (h t u s).2⟩⟩
 refine(ua ws nm n (NG ws nm n) vs p w.heap.size (w.heap.size+1) q d ([],[]) _ a pc wA z (dV k f) (λb e C=>by have:=(k.lt b e).2;omega) (by omega) G F H B (by simpa using I) (by simpa using D) A ?_).mono ?_
 ·intro b o e C;have:=E b o e;omega
 ·rintro e w' ⟨g,rfl,v⟩;obtain⟨Q,M,i,X,N,Y,O⟩:=v;obtain⟨tv,Z,P,J,K,T,U,V,L,W⟩:=M;refine⟨g,tv,rfl,J.cells.1.2.1,⟨?_,?_,?_,?_,?_⟩,K,O,by omega,λe=>N (L g e)⟩
  ·exact i.os.trans f.os
  ·exact i.tape.trans f.tape
  ·exact i.output.trans f.output
  ·have:=i.size;omega
  ·intro b j;exact(i.block b (by omega) (by omega)).trans (f.block b j)
variable{R:List Wd×List Wd×dw}
theorem BN{M:aX}(n:ed base h room ws nm M w)(i:ap w w1)(r:lO R len g tv w1 w2)(z:base<=w.heap.size):mQ base h room R.2.1 nm M w (w2.setCell ⟨h.b,h.o+1,none⟩ tv):=by
 obtain⟨v,l,A,B,C⟩:=r;have s:=i.size;have j:=i.trans (v.mono s);obtain⟨D,t,u,d,x,e,f,y,p,q⟩:=n.later j;have k:=bJ w2 h.b (h.o+1) tv;have m:∀b,tv.ownBlock=some b->w1.heap.size<=b:=λb a=>(l.lt b a).1;refine⟨⟨tv,t,u,d.set1 tv,eA (sF l (by omega)) k (λb a c=>?_),e.kept k (λb a c=>?_) (λb a c=>?_),ak f.1,λb a=>am (by have:=m b a;omega),λb a=>ak (p b a).1,λb a=>ak (q b a).1⟩,(bC j M).trans k ?_⟩
 ·subst c;have:=m _ a;have:=f.2;omega
 ·subst c;exact oo e.1 d (by decide) a
 ·subst c;exact uZ e d a
 ·rintro b _ rfl;exact f.1
theorem zV(R:List Wd×List Wd×dw)(d:cR)(n:ay)(L q:Nat)(a:ay)(len pc:Nat)(w:ah)(j:d.b<w.heap.size)(i:ai w d.b (d.o+1) (af n L q))(f1:w.frozen? ⟨d.b,d.o+1,none⟩=false)(k:Hid (au 240 #[.pointer (some ⟨d.b,d.o,none⟩),af a len pc] w λe w'=>e=aw (.bool true)/\ap w w'))(l:Hid (∀w1,ap w w1->au 241 #[af n L q,af a len pc] w1 λe w'=>∃g tv,e=aw (ax #[tv,af (some ⟨g,0,none⟩) len len])/\Hid (lO R len g tv w1 w'))):au 232 #[.pointer (some ⟨d.b,d.o,none⟩),af a len pc] w λe w'=>∃g tv w1 w2,e=aw (ax #[af (some ⟨g,0,none⟩) len len,ae 0])/\w'=w2.setCell ⟨d.b,d.o+1,none⟩ tv/\Hid (ap w w1/\lO R len g tv w1 w2):=by
 go_enter func232,ntmps232;go_wp2_with fail;refine k.mono ?_;rintro e w1 ⟨rfl,f⟩;have HB:=av f;replace i:=(aC f d.b (d.o+1) j).trans i;replace f1:=(ib f d.b (d.o+1) j).trans f1;have m:d.b<w1.heap.size:=bi j f.size;clear f k;go_wp2_with fail;refine(l w1 HB).mono ?_;rintro e w2 ⟨g,tv,rfl,h⟩;obtain⟨p,r,rfl⟩:∃p r,tv=af p R.2.1.length r:=by
  rcases h.out.2.1.2 with⟨e,s⟩|⟨g,c,t,e,_⟩
  ·exact⟨none,0,by rw[e,s]⟩
  ·exact⟨_,c,e⟩
 replace i:=(aC h.1 d.b (d.o+1) m).trans i;replace f1:=(ib h.1 d.b (d.o+1) m).trans f1;clear l;go_wp2_with fail
 go_ret2
 exact⟨g,_,w1,w2,rfl,rfl,HB,h⟩
theorem gX.mem{l:List Wd}{p:List (Tm n)}(b:gX ws nm n l p){v:Wd}(e:v∈l):∃y∈p,ee ws nm n y v:=by
 obtain⟨a,c⟩:=dj e;have d:a<p.length:=by rw[<-b.1];exact(bj.1 c).1
 exact⟨p[a],gi _,b.2 a v p[a] c (aV d)⟩
def G0(g c:dw)(a b:Nat):Prop:=∀p,(p<a\/b<=p)->look c p=look g p
theorem I4{a C:List Wd}{c:Wd}(k:(a++c::C) <+:b):cI b a.length C.length=C:=by
 obtain⟨d,rfl⟩:=k;unfold cI;rw[show a++c::C++d=(a++ [c])++(C++d) by simp];rw[List.drop_left' (by simp),List.take_left' rfl]
theorem DK(c:fj w vs a)(d:ap w w1):fj w1 vs a:=by
 rcases c with c|⟨b,o,i,e,c⟩
 ·exact ak c
 ·exact am ⟨b,o,i,bi e d.size,λg h f=>⟨(aC d b _ e).trans (c g h f).1,(aC d b _ e).trans (c g h f).2⟩⟩
def FY(ws:List Wd)(nm:bm)(n:Nat)(vs:List Wd)(p:List (Tm n)):Prop:=
 gX ws nm n vs p/\(∀a∈p,aM ⟨n,a⟩)/\(∀a∈p,aY n a=true)/\(p.map λa=>1+sz n a).sum<=90000/\(p.flatMap λa=>aI n a).length<=90000/\vs.length<=1000
def kC(ws:List Wd)(n:Nat)(vs:List Wd):List Wd×List Wd×dw:=ij (ky ws n) vs ([],[])
theorem FY.all{ws:List Wd}{nm:bm}{n:Nat}{vs:List Wd}{p:List (Tm n)}(b:FY ws nm n vs p)(g:ws.length<=1000)(f:nm.length<=95000):vs.all (df ws nm)=true/\∀v∈vs,dp v.2:=by
 have key:∀v∈vs,df ws nm v=true/\dp v.2:=λv a=>by
  obtain⟨d,c,e⟩:=b.1.mem a;exact Dq e (b.2.1 d c) (b.2.2.1 d c) (by omega) (by omega)
 exact⟨cZ.2 λv a=>(key v a).1,λv a=>(key v a).2⟩
def zF(base:Nat)(a:cR)(room:Int)(R:List Wd×List Wd×dw)(nm:bm)(M:aX)(g:Nat)(w w':ah):Prop:=
 ed base a room R.2.1 nm (λb=>(M b\/w.heap.size<=b)/\b≠g) w'/\co M w w'/\fj w' R.1 (some ⟨g,0,none⟩)/\w.heap.size<=g/\g<w'.heap.size/\∃len,w'.ownsRow g 184 2 (af (some ⟨g,0,none⟩) len len) len (bA R.1)
theorem zB(a:w.ownsRow base 184 2 (af (some ⟨g,0,none⟩) len len) len (bA vs)):fj w vs (some ⟨g,0,none⟩)/\g<w.heap.size:=by
 refine⟨am ⟨g,0,rfl,(a.lt g rfl).2,λc d b=>?_⟩,(a.lt g rfl).2⟩;have:=jw a c d b;rw[cC];exact this
theorem Ku{M:aX}(j:ed base h room ws nm M w)(f:ap w w1)(p:lO R len g tv w1 w2)(t:base<=w.heap.size):zF base h room R nm M g w (w2.setCell ⟨h.b,h.o+1,none⟩ tv):=by
 have u:=BN j f p t;obtain⟨z,q,i,F,B⟩:=p;have v:=f.size;have s:=f.trans (z.mono v);obtain⟨G,x,y,d,C,e,l,D,m,n⟩:=j.later s;have k:=bJ w2 h.b (h.o+1) tv;have r:∀b,tv.ownBlock=some b->w1.heap.size<=b:=λb a=>(q.lt b a).1;have E:h.b<w.heap.size:=l.2;refine⟨⟨tv,x,y,d.set1 tv,eA (sF q (by omega)) k (λb a c=>?_),e.kept k (λb a c=>?_) (λb a c=>?_),⟨ak l.1,by omega⟩,λb a=>⟨am (by have:=r b a;omega),λc=>B (by rw[a,c])⟩,λb a=>⟨ak (m b a).1,by have:=(m b a).2;omega⟩,λb a=>⟨ak (n b a).1,by have:=(n b a).2;omega⟩⟩,u.2,?_,by omega,?_,?_⟩
 ·subst c;have:=r _ a;omega
 ·subst c;exact oo e.1 d (by decide) a
 ·subst c;exact uZ e d a
 ·have A:=eA i k (λb a c=>by
    subst c;simp only[Value.ownBlock]at a;have:=aJ a
    omega)
  exact(zB A).1
 ·have:=(zB i).2;simpa [World.setCell]using this
 ·exact⟨len,eA i k (λb a c=>by
    subst c;simp only[Value.ownBlock]at a;have:=aJ a
    omega)⟩
theorem As(n:Nat)(p:List (Tm n))(vs:List Wd)(a:ay)(pc base:Nat)(f:cR)(room:Int)(ws:List Wd)(nm:bm)(M:aX)(w:ah)(j:ed base f room ws nm M w)(d:FY ws nm n vs p)(r:fj w vs a)(C:∀b o,a=some ⟨b,o,none⟩->b<w.heap.size)(z:base<=w.heap.size)(E:ws.length<=1000)(D:nm.length<=95000):au 232 #[.pointer (some ⟨f.b,f.o,none⟩),af a vs.length pc] w λe w'=>∃g,e=aw (ax #[af (some ⟨g,0,none⟩) vs.length vs.length,ae 0])/\Hid (zF base f room (kC ws n vs) nm M g w w'):=by
 obtain⟨y,B⟩:=d.all E D;obtain⟨t,P,Q,m,q,J,K,L,N,O⟩:=id j;obtain⟨⟨F,v,G,H⟩,A⟩:=m.cells;obtain⟨h,i,rfl⟩:∃h i,t=af h ws.length i:=by
  rcases q.2 with⟨e,x⟩|⟨g,c,I,e,_⟩
  ·exact⟨none,0,by rw[e,x]⟩
  ·exact⟨_,c,e⟩
 refine(zV (kC ws n vs) f h ws.length i a vs.length pc w m.lt v (A _) ?_ ?_).mono ?_
 ·have s:=zM base f room ws nm M vs a vs.length pc w j (by omega) rfl (by have:=d.2.2.2.2.2;omega) r B;rw[y]at s;exact s
 ·intro u k;refine C3 ws nm n vs p base (af h ws.length i) a pc u (dV q k) d.1 d.2.1 (by omega) (by have:=d.2.2.2.2.2;omega) d.2.2.2.1 d.2.2.2.2.1 (DK r k) ?_;intro b o e;exact bi (C b o e) k.size
 ·rintro e w' ⟨g,t,u,R,rfl,rfl,l⟩;exact⟨g,rfl,Ku j l.1 l.2 z⟩
def pT(ws:List Wd):Nat->Wd->List Nat
 | 0,_=> []
 | n+1,v=>if v.1=4 then
    match ws[v.2.toNat]? with
    | some a=>v.2.toNat::(cI ws v.2.toNat a.2.toNat).flatMap (pT ws n)
    | none=> []
  else []
theorem nz{v:Wd}(a:v.1≠4):pT ws n v=[]:=by
 cases n with
 | zero=>rfl
 | succ n=>simp[pT,a]
theorem sH(a:ws[p]?=some (0,(m:Int))):pT ws (n+1) (4,(p:Int))=p::(cI ws p m).flatMap (pT ws n):=by
 simp[pT,a]
theorem yI{s:aq}(a:s∈nm):e9 nm s=nm:=by
 unfold e9;rw[if_pos ((AC nm s).2 a)]
theorem BO(ih:∀(x:Tm n)(v:Wd)(S:List Wd×dw),ee ws nm n x v->(pT ws n v).Nodup->(∀p∈pT ws n v,look S.2 p=none)->((ky ws n v S).1=(bw n x S.1 nm).1/\(ky ws n v S).2.1=(bw n x S.1 nm).2.1/\(bw n x S.1 nm).2.2=nm)/\∀p,look (ky ws n v S).2.2 p=none ↔ look S.2 p=none/\p∉pT ws n v):(us:List Wd)->(ys:List (Tm n))->gX ws nm n us ys->(S:List Wd×dw)->(us.flatMap (pT ws n)).Nodup->(∀p∈us.flatMap (pT ws n),look S.2 p=none)-> ((ij (ky ws n) us S).1=(bY (bw n) ys S.1 nm).1/\(ij (ky ws n) us S).2.1=(bY (bw n) ys S.1 nm).2.1/\(bY (bw n) ys S.1 nm).2.2=nm)/\∀p,look (ij (ky ws n) us S).2.2 p=none ↔ look S.2 p=none/\p∉us.flatMap (pT ws n)
 | us,ys,a,S,hn,hl=>by
  induction us generalizing ys S with
  | nil=>
   obtain rfl:ys=[]:=by have:=a.1;cases ys with|nil=>rfl|cons e l=>simp at this
   simp[ij,bY]
  | cons v us z=>
   cases ys with
   | nil=>have:=a.1;simp at this
   | cons d ys=>
    have r:ee ws nm n d v:=a.2 0 v d (by simp) (by simp);have w:gX ws nm n us ys:=⟨by have:=a.1;simpa using this,λy e b s t=>a.2 (y+1) e b (by simpa using s) (by simpa using t)⟩;rw[bM]at hn hl;obtain⟨A,B,C⟩:=fM.1 hn;obtain⟨⟨g,h,i⟩,f⟩:=ih d v S r A (λp c=>hl p (List.mem_append_left _ c));have u:∀p∈us.flatMap (pT ws n),look (ky ws n v S).2.2 p=none:=λp c=>(f p).2 ⟨hl p (List.mem_append_right _ c),λq=>C p q p c rfl⟩;obtain⟨⟨j,k,m⟩,o⟩:=z ys w (ky ws n v S).2 B u;simp only[ij,bY];rw[i,<-h];refine⟨⟨by rw[g,j],k,m⟩,λp=>?_⟩;rw[o p,f p,bM,dv,not_or,and_assoc]
theorem Gf{ws:List Wd}{nm:bm}(g:nm.Nodup):(n:Nat)->(x:Tm n)->(v:Wd)->(S:List Wd×dw)->ee ws nm n x v->(pT ws n v).Nodup->(∀p∈pT ws n v,look S.2 p=none)-> ((ky ws n v S).1=(bw n x S.1 nm).1/\(ky ws n v S).2.1=(bw n x S.1 nm).2.1/\(bw n x S.1 nm).2.2=nm)/\∀p,look (ky ws n v S).2.2 p=none ↔ look S.2 p=none/\p∉pT ws n v
 | 0,_,_,_,h,_,_=>h.elim
 | n+1,x,v,S,h,hn,hl=>by
  by_cases b:x.1.1=4
  ·obtain⟨p,rfl,i,u,s⟩:=ke h b;rw[sH i]at hn hl ⊢;have o:=hl p (by simp);rw[zY o i];have r:=nM.1 hn;obtain⟨⟨k,f,l⟩,m⟩:=BO (λx v S=>Gf g n x v S) (cI ws p x.2.2.length) x.2.2 s S r.2 (λq c=>hl q (cd _ c));have e:bw (n+1) x S.1 nm=((4,((bY (bw n) x.2.2 S.1 nm).2.1.length:Int)),(bY (bw n) x.2.2 S.1 nm).2.1++(0,(x.2.2.length:Int))::(bY (bw n) x.2.2 S.1 nm).1,(bY (bw n) x.2.2 S.1 nm).2.2):=by
    simp only[bw];rw[if_neg (by omega),if_pos b]
   rw[e];refine⟨⟨by rw[f],by rw[k,f],l⟩,λq=>?_⟩;by_cases c:q=p
   ·subst c;rw[tB];simp
   ·rw[rh _ _ c,m q];simp[c]
  ·have j:=jh h b;rw[vK j,nz j];refine⟨⟨?_,?_,?_⟩,λq=>by simp⟩
   ·simp only[bw];by_cases a:x.1.1=2
    ·rw[if_pos a];obtain⟨t,rfl,d⟩:=h.1 a;rw[yI (aU d),CL g d]
    ·rw[if_neg a,if_neg b];exact h.2.2 a b
   ·simp only[bw];split
    ·rfl
    ·rfl
   ·simp only[bw];split
    ·rename_i a;obtain⟨t,rfl,d⟩:=h.1 a;exact yI (aU d)
    ·rfl
theorem E9(a:ws <+:b)(c:p+1+m<=ws.length):cI b p m=cI ws p m:=by
 obtain⟨t,rfl⟩:=a;unfold cI;rw[p9 (by omega),ku (by rw[eV];omega)]
theorem NR(c:ws <+:b){v:Wd}(a:ws[p]?=some v):b[p]?=some v:=by
 obtain⟨t,rfl⟩:=c;rw[dO (bj.1 a).1];exact a
theorem nY{c e:Type}{f g:c->List e}:{l:List c}->(∀a∈l,f a=g a)->l.flatMap f=l.flatMap g
 | [],_=>rfl
 | a::l,h=>by rw[bM,bM,h a (by simp),nY (l:=l) λb d=>h b (by simp[d])]
theorem sG{ws d:List Wd}{nm:bm}(b:ws <+:d):(n:Nat)->(x:Tm n)->(v:Wd)->ee ws nm n x v->pT d n v=pT ws n v
 | 0,_,_,h=>h.elim
 | n+1,x,v,h=>by
  by_cases a:x.1.1=4
  ·obtain⟨p,rfl,c,e,f⟩:=ke h a;rw[sH c,sH (NR b c),E9 b e];congr 1;refine nY λj g=>?_;obtain⟨y,_,i⟩:=f.mem g;exact sG b n y j i
  ·rw[nz (jh h a),nz (jh h a)]
theorem AG{ws:List Wd}{nm:bm}:(n:Nat)->(x:Tm n)->(v:Wd)->ee ws nm n x v->∀p∈pT ws n v,p<ws.length
 | 0,_,_,h,_,_=>h.elim
 | n+1,x,v,h,q,a=>by
  by_cases b:x.1.1=4
  ·obtain⟨p,rfl,c,i,d⟩:=ke h b;rw[sH c,cr,kt]at a;rcases a with rfl|⟨g,e,a⟩
   ·omega
   ·obtain⟨y,_,f⟩:=d.mem e;exact AG n y g f q a
  ·rw[nz (jh h b)]at a;cases a
theorem wm{n:Nat}(ih:∀(x:Tm n)(ws:List Wd)(nm:bm),aM ⟨n,x⟩->(pT (bw n x ws nm).2.1 n (bw n x ws nm).1).Nodup/\∀p∈pT (bw n x ws nm).2.1 n (bw n x ws nm).1,ws.length<=p):(l:List (Tm n))->(ws:List Wd)->(nm:bm)->(∀y∈l,aM ⟨n,y⟩)->((bY (bw n) l ws nm).1.flatMap (pT (bY (bw n) l ws nm).2.1 n)).Nodup/\∀p∈(bY (bw n) l ws nm).1.flatMap (pT (bY (bw n) l ws nm).2.1 n),ws.length<=p
 | [],_,_,_=>by simp[bY]
 | y::l,ws,nm,hr=>by
  have f:=ih y ws nm (hr y (by simp));have g:=il n y ws nm (hr y (by simp));have d:=wm ih l (bw n y ws nm).2.1 (bw n y ws nm).2.2 (λo m=>hr o (by simp[m]));have c:=(sn (λx ws nm=>nh n x ws nm) l (bw n y ws nm).2.1 (bw n y ws nm).2.2).1;have k:=sG c n y _ g;have j:=AG n y _ g;have q:=(nh n y ws nm).1.length_le;simp only[bY,bM];rw[k];refine⟨fM.2 ⟨f.1,d.1,λa h b i e=>?_⟩,λp c=>?_⟩
  ·have:=j a h;have:=d.2 b i;omega
  ·rcases dv.1 c with c|c
   ·exact f.2 p c
   ·have:=d.2 p c;omega
theorem Av:(n:Nat)->(x:Tm n)->(ws:List Wd)->(nm:bm)->aM ⟨n,x⟩->(pT (bw n x ws nm).2.1 n (bw n x ws nm).1).Nodup/\∀p∈pT (bw n x ws nm).2.1 n (bw n x ws nm).1,ws.length<=p
 | 0,_,_,_,h=>(dH h).elim
 | n+1,x,ws,nm,h=>by
  by_cases q:x.1.1=4
  ·have e:bw (n+1) x ws nm=((4,((bY (bw n) x.2.2 ws nm).2.1.length:Int)),(bY (bw n) x.2.2 ws nm).2.1++(0,(x.2.2.length:Int))::(bY (bw n) x.2.2 ws nm).1,(bY (bw n) x.2.2 ws nm).2.2):=by
     simp only[bw];rw[if_neg (by omega),if_pos q]
   have r:∀o∈x.2.2,aM ⟨n,o⟩:=λo B=>bu n x o h B;have k:=wm (λx ws nm l=>Av n x ws nm l) x.2.2 ws nm r;have A:=(sn (λx ws nm=>nh n x ws nm) x.2.2 ws nm).1.length_le;have s:=o7 (λx ws nm l=>il n x ws nm l) x.2.2 ws nm r;have v:=im (bw n) x.2.2 ws nm;rw[e];generalize (bY (bw n) x.2.2 ws nm).2.1=c at*;generalize (bY (bw n) x.2.2 ws nm).1=d at*;generalize (bY (bw n) x.2.2 ws nm).2.2=D at*;have t:(c++(0,(x.2.2.length:Int))::d)[c.length]?=some (0,(x.2.2.length:Int)):=by simp
   have z:cI (c++(0,(x.2.2.length:Int))::d) c.length x.2.2.length=d:=by rw[<-v];exact I4 (gR _)
   have y:d.flatMap (pT (c++(0,(x.2.2.length:Int))::d) n)=d.flatMap (pT c n):=nY λm j=>by
    obtain⟨i,f⟩:=dj j;have u:=(bj.1 f).1;obtain⟨C,b,g⟩:=s i (x.2.2[i]'(by omega)) (aV _);rw[f]at b;injection b with b;subst b;exact sG (qj _ _) n _ m g
   have w:∀p∈d.flatMap (pT c n),p<c.length:=λp a=>by
    obtain⟨m,j,a⟩:=kt.1 a;obtain⟨i,f⟩:=dj j;have u:=(bj.1 f).1;obtain⟨C,b,g⟩:=s i (x.2.2[i]'(by omega)) (aV _);rw[f]at b;injection b with b;subst b;exact AG n _ m g p a
   simp only;rw[sH t,z,y];refine⟨nM.2 ⟨λa=>by have:=w _ a;omega,k.1⟩,λp a=>?_⟩;rcases cr.1 a with rfl|a
   ·exact A
   ·exact k.2 p a
  ·have g:=il (n+1) x ws nm h;rw[nz (jh g q)];simp
theorem Cv(n:Nat):(l:List (Tm n))->(ws:List Wd)->(nm:bm)->((bY (bw n) l ws nm).2.1.length:Int)=ws.length+(l.map (sz n)).sum
 | [],_,_=>by simp[bY]
 | y::l,ws,nm=>by
  have a:=(jg n y ws nm).1;have b:=Cv n l (bw n y ws nm).2.1 (bw n y ws nm).2.2;simp only[bY,bB,dk];omega
theorem Fk(d:nm.Nodup){p:List (Tm n)}(b:gX ws nm n vs p)(c:(vs.flatMap (pT ws n)).Nodup):(kC ws n vs).1=(bY (bw n) p [] nm).1/\(kC ws n vs).2.1=(bY (bw n) p [] nm).2.1/\(bY (bw n) p [] nm).2.2=nm:=
 (BO (λf e a=>Gf d n f e a) vs p b ([],[]) c (λ_ _=>rfl)).1
def px:aq:=⟨#[99,111,100,101]⟩
def xr:aq:=⟨#[98,101,104]⟩
def Oe:aq:=⟨#[111,110]⟩
def oL:aq:=⟨#[115,101,110,100]⟩
def kD:aq:=⟨#[115,112,97,119,110]⟩
def oK:aq:=⟨#[108,105,110,107]⟩
def oM:aq:=⟨#[115,116,111,112]⟩
def fo(n:Nat)(x:Tm n):Bool:=(gM n x).1.1==0 && (gM n x).1.2.1==0 && (gM n x).1.2.2.toList.isEmpty && ((gM n x).2.2.1:Int)==0
def xE(s:aq)(v:Int):Bool:=s.toList.isEmpty && v==0
def oO(n:Nat)(a:Ac n):Bool:=
 if a.1=1 then xE a.2.2.1 a.2.2.2
 else if a.1=2 then fo n a.2.1.1 && ek a.2.2.1 && decide (0<=a.2.2.2) && decide (a.2.2.2<4)
 else if a.1=3 then fo n a.2.1.2 && xE a.2.2.1 a.2.2.2
 else if a.1=4 then fo n a.2.1.1 && fo n a.2.1.2 && xE a.2.2.1 a.2.2.2
 else false
def vD(n:Nat)(c:Cl n):Bool:=decide ((c.2.2.length:Int)<=8) && c.2.2.all (oO n)
def xY(n:Nat)(b:Bh n):Bool:=ek b.1 && decide (1<=(b.2.2.length:Int)) && decide ((b.2.2.length:Int)<=6) && b.2.2.all (vD n)
def lm(n:Nat)(l:List (Bh n)):Bool:=decide (1<=(l.length:Int)) && decide ((l.length:Int)<=7) && l.all (xY n)
def bQ(s:aq)(N:Nat):Tm (N+1):=((2,0,s),(none,0),[])
def cP(n:Nat)(a:Ac (n+1)):Tm (n+2):=
 if a.1=1 then dT (n+1) [bQ oL n,a.2.1.1,a.2.1.2]
 else if a.1=2 then dT (n+1) [bQ kD n,bQ a.2.2.1 n,a.2.1.2,cB 5 a.2.2.2 n]
 else if a.1=3 then dT (n+1) [bQ oK n,a.2.1.1]
 else dT (n+1) [bQ oM n]
def eD(n:Nat)(c:Cl (n+1)):Tm (n+4):=
 dT (n+3) [bQ Oe (n+2),bq (n+3) (n+1) c.1.1,bq (n+3) (n+1) c.1.2.1,dT (n+2) (c.2.2.map (cP n)),bq (n+3) (n+1) c.1.2.2]
def eQ(n:Nat)(b:Bh (n+1)):Tm (n+5):=dT (n+4) (bQ xr (n+3)::bQ b.1 (n+3)::b.2.2.map (eD n))
def cY(n:Nat)(l:List (Bh (n+1))):Tm (n+6):=dT (n+5) (bQ px (n+4)::l.map (eQ n))
def fh{a b:Type}(R:a->b->Prop)(l:List a)(r:List b):Prop:=l.length=r.length/\∀(i:Nat)(x:a)(y:b),l[i]?=some x->r[i]?=some y->R x y
theorem fh.nil{R:u->F->Prop}:fh R [] []:=⟨rfl,λi x y a=>by simp at a⟩
theorem fh.snoc{R:u->F->Prop}(d:fh R l r)(k:R x y):fh R (l++ [x]) (r++ [y]):=by
 refine⟨by simp[d.1],λf h b a c=>?_⟩;by_cases g:f<l.length
 ·rw[dO g]at a;rw[dO (by rw[<-d.1];exact g)]at c;exact d.2 f h b a c
 ·rw[ft (by omega)]at a;rw[ft (by rw[<-d.1];omega)]at c;have e:f-l.length=0:=by
   by_cases e:f-l.length=0
   ·exact e
   ·rw[fu (by simp;omega)]at a;cases a
  rw[<-d.1,e]at c;rw[e]at a;simp at a c;rw[<-a,<-c];exact k
theorem fh.tail{R:u->F->Prop}(a:fh R (x::l) (y::r)):R x y/\fh R l r:=
 ⟨a.2 0 x y (by simp) (by simp),by simpa using a.1,λf c b d e=>a.2 (f+1) c b (by simpa using d) (by simpa using e)⟩
theorem fh.all{a b:Type}{R:a->b->Prop}(f:a->Bool)(g:b->Bool)(c:∀x y,R x y->f x=g y):(l:List a)->(r:List b)->fh R l r->l.all f=r.all g
 | [],[],_=>rfl
 | [],_::_,h=>by have:=h.1;simp at this
 | _::_,[],h=>by have:=h.1;simp at this
 | x::l,y::r,h=>by
  simp only[jx,c x y h.tail.1,fh.all f g c l r h.tail.2]
theorem fh.same{c d:Type}{R:c->d->Prop}{n m:Nat}(f:c->Tm n)(g:d->Tm m)(e:∀x y,R x y->aK n (f x) m (g y)=true):(l:List c)->(r:List d)->fh R l r->aO (λa b=>aK n a m b) (l.map f) (r.map g)=true
 | [],[],_=>rfl
 | [],_::_,h=>by have:=h.1;simp at this
 | _::_,[],h=>by have:=h.1;simp at this
 | x::l,y::r,h=>by
  simp only[bB,aO,aT];exact⟨e x y h.tail.1,fh.same f g e l r h.tail.2⟩
def DV(n:Nat)(a b:Ac n):Prop:=a.1=b.1/\aK n a.2.1.1 n b.2.1.1=true/\aK n a.2.1.2 n b.2.1.2=true/\a.2.2=b.2.2
def DR(n:Nat)(a b:Cl n):Prop:=(aK n a.1.1 n b.1.1=true/\aK n a.1.2.1 n b.1.2.1=true/\aK n a.1.2.2 n b.1.2.2=true)/\fh (DV n) a.2.2 b.2.2
def xZ(n:Nat)(a b:Bh n):Prop:=a.1=b.1/\fh (DR n) a.2.2 b.2.2
theorem GL{x:Tm n}{y:Tm m}(a:aK n x m y=true):(gM n x).1=(gM m y).1/\(gM n x).2.2.1=(gM m y).2.2.1:=by
 cases n with
 | zero=>simp[aK]at a
 | succ n=>
  cases m with
  | zero=>simp[aK]at a
  | succ m=>
   have b:=bV a;have c:=cX _ _ _ b.2;simp only[gM,bR];exact⟨b.1,c⟩
theorem sK{x:Tm n}{y:Tm m}(b:aK n x m y=true):fo n x=fo m y:=by
 have a:=GL b;simp only[fo,a.1,a.2]
theorem P3{a b:Ac n}(c:DV n a b):oO n a=oO n b:=by
 obtain⟨d,e,f,g⟩:=c;simp only[oO,d,g,sK e,sK f]
theorem P5{a b:Cl n}(c:DR n a b):vD n a=vD n b:=by
 simp only[vD,c.2.1,fh.all (R:=DV n) (oO n) (oO n) (λ_ _ c=>P3 c) _ _ c.2]
theorem P4{a b:Bh n}(c:xZ n a b):xY n a=xY n b:=by
 simp only[xY,c.1,c.2.1,fh.all (R:=DR n) (vD n) (vD n) (λ_ _ c=>P5 c) _ _ c.2]
theorem LF{l r:List (Bh n)}(a:fh (xZ n) l r):lm n l=lm n r:=by
 simp only[lm,a.1,fh.all (R:=xZ n) (xY n) (xY n) (λ_ _ a=>P4 a) _ _ a]
theorem ez(s:aq)(N M:Nat):aK (N+1) (bQ s N) (M+1) (bQ s M)=true:=dD rfl rfl
theorem EM(k a:Int)(N M:Nat):aK (N+1) (cB k a N) (M+1) (cB k a M)=true:=dD rfl rfl
theorem ir{M:Nat}{l:List (Tm N)}{r:List (Tm M)}(c:aO (λa b=>aK N a M b) l r=true):aK (N+1) (dT N l) (M+1) (dT M r)=true:=dD rfl c
theorem nj:(N n:Nat)->n<=N->(x:Tm n)->aK n x n x=true->aK N (bq N n x) n x=true
 | _,0,_,_,h=>by simp[aK]at h
 | 0,n+1,h,_,_=>by omega
 | N+1,n+1,h,x,hr=>by
  have b:=(bV hr).2;refine dD rfl (jq _ _ _ λy c=>nj N n (by omega) y ?_);obtain⟨i,a⟩:=dj c;exact j0 _ _ _ b i y y a a
theorem zb{x:Tm n}{y:Tm m}(a:aK n x m y=true):aK n x n x=true:=bW _ _ _ _ _ _ a (dF _ _ _ _ a)
theorem Fp{x:Tm n}{y:Tm m}(a:aK n x m y=true):aK m y m y=true:=bW _ _ _ _ _ _ (dF _ _ _ _ a) a
theorem pO(c:n<=N)(b:m<=N){x:Tm n}{y:Tm m}(a:aK n x m y=true):aK N (bq N n x) N (bq N m y)=true:=
 bW _ _ _ _ _ _ (nj N n c x (zb a)) (bW _ _ _ _ _ _ a (dF _ _ _ _ (nj N m b y (Fp a))))
theorem mA{B:Nat}{w:ah}:{n:Nat}->{x:Tm n}->In B w n x->aK n x n x=true
 | 0,_,k=>k.elim
 | n+1,x,k=>by
  refine dD rfl (jr _ _ λy a=>?_);obtain⟨i,c⟩:=dj a;rcases k.2 with e|⟨b,o,_,_,d⟩
  ·rw[e]at a;cases a
  ·exact mA (d i y c).2
theorem J7{a b:Ac (n+1)}(e:DV (n+1) a b):aK (n+2) (cP n a) (n+2) (cP n b)=true:=by
 obtain⟨f,c,d,g⟩:=e;unfold cP;rw[f,g];split
 ·exact ir (by simp[aO,ez,c,d])
 split
 ·exact ir (by simp[aO,ez,EM,d])
 split
 ·exact ir (by simp[aO,ez,c])
 ·exact ir (by simp[aO,ez])
theorem Kp{a b:Cl (n+1)}(c:DR (n+1) a b):aK (n+4) (eD n a) (n+4) (eD n b)=true:=by
 have d:=fh.same (cP n) (cP n) (λ_ _ c=>J7 c) _ _ c.2;exact ir (by simp only[aO,aT];exact⟨ez _ _ _,pO (by omega) (by omega) c.1.1,pO (by omega) (by omega) c.1.2.1,ir d,pO (by omega) (by omega) c.1.2.2,trivial⟩)
theorem Ke{a b:Bh (n+1)}(c:xZ (n+1) a b):aK (n+5) (eQ n a) (n+5) (eQ n b)=true:=by
 have d:=fh.same (eD n) (eD n) (λ_ _ c=>Kp c) _ _ c.2;refine ir ?_;simp only[aO,aT];exact⟨ez _ _ _,by rw[c.1];exact ez _ _ _,d⟩
theorem LG{l r:List (Bh (n+1))}(a:fh (xZ (n+1)) l r):aK (n+6) (cY n l) (n+6) (cY n r)=true:=by
 have b:=fh.same (eQ n) (eQ n) (λ_ _ a=>Ke a) _ _ a;refine ir ?_;simp only[aO,aT];exact⟨ez _ _ _,b⟩
theorem dY(k b:Int)(s:aq)(a:ay)(l c:Nat)(w:ah):au 200 #[aB k b s a l c] w λe w'=>e=aw (.bool (k==0 && b==0 && s.toList.isEmpty && (l:Int)==0))/\w'=w.alloc (.cells #[ae k,ae b,ag s,af a l c] 54):=by
 cases h1:k==0
 ·go_enter func200,ntmps200;go_wp2_with fail
  go_ret
  exact⟨rfl,rfl⟩
 cases h2:b==0
 ·go_enter func200,ntmps200;go_wp2_with fail
  go_ret
  exact⟨rfl,rfl⟩
 cases h3:s.toList.isEmpty
 ·go_enter func200,ntmps200;go_wp2_with fail
  go_ret
  exact⟨rfl,rfl⟩
 go_enter func200,ntmps200;go_wp2_with fail
 go_ret
 exact⟨rfl,rfl⟩
theorem rA(K t0 t1 a b v:Int)(t2 c s:aq)(t3 d:ay)(t4 t5 f g:Nat)(w:ah):au 199 #[.agg #[ae K,ae t0,ae t1,ag t2,af t3 t4 t5,ae a,ae b,ag c,af d f g,ag s,ae v]] w λe w'=>e=aw (.bool (xE s v))/\w'=w.alloc (.cells #[ae K,ae t0,ae t1,ag t2,af t3 t4 t5,ae a,ae b,ag c,af d f g,ag s,ae v] 268):=by
 unfold xE;cases h3:s.toList.isEmpty
 ·go_enter func199,ntmps199;go_wp2_with fail
  go_ret
  exact⟨rfl,rfl⟩
 go_enter func199,ntmps199;go_wp2_with fail
 go_ret
 exact⟨rfl,rfl⟩
theorem EH(K t0 t1 o p v:Int)(t2 q s:aq)(t3 t:ay)(t4 t5 r u:Nat)(w:ah)(m:s.size<=9223372036854775807)(h i l n:Bool)(a:Hid ((t0==0 && t1==0 && t2.toList.isEmpty && (t4:Int)==0)=h))(d:Hid ((o==0 && p==0 && q.toList.isEmpty && (r:Int)==0)=i))(j:Hid (xE s v=l))(f:Hid (ek s=n)):au 173 #[.agg #[ae K,ae t0,ae t1,ag t2,af t3 t4 t5,ae o,ae p,ag q,af t r u,ag s,ae v]] w λe w'=>e=aw (.bool (if K=1 then l else if K=2 then h && n && decide (0<=v) && decide (v<4)else if K=3 then i && l else if K=4 then h && i && l else false))/\ap w w':=by
 by_cases b:K=1
 ·subst b;rw[if_pos rfl];go_enter func173,ntmps173;go_wp2_with (go_at_call 199;refine(rA _ _ _ _ _ _ _ _ _ _ _ _ _ _ _ _).mono ?_;rintro e w' ⟨rfl,rfl⟩;rw[j.out])
  go_ret
  exact⟨rfl,by go_grown⟩
 rw[if_neg b];by_cases c:K=2
 ·subst c;rw[if_pos rfl];clear d j b;cases h
  ·go_enter func173,ntmps173;go_wp2_with (go_at_call 200;refine(dY _ _ _ _ _ _ _).mono ?_;rintro e w' ⟨rfl,rfl⟩;rw[a.out])
   go_ret
   exact⟨rfl,by go_grown⟩
  cases n
  ·go_enter func173,ntmps173;go_wp2_with (first|(go_at_call 200;refine(dY _ _ _ _ _ _ _).mono ?_;rintro e w' ⟨rfl,rfl⟩;rw[a.out])|(go_at_call 115;refine(jf _ _ m).mono ?_;rintro e w' ⟨rfl,rfl⟩;rw[f.out]))
   go_ret
   exact⟨rfl,by go_grown⟩
  cases hv:decide (0<=v)
  ·go_enter func173,ntmps173;go_wp2_with (first|(go_at_call 200;refine(dY _ _ _ _ _ _ _).mono ?_;rintro e w' ⟨rfl,rfl⟩;rw[a.out])|(go_at_call 115;refine(jf _ _ m).mono ?_;rintro e w' ⟨rfl,rfl⟩;rw[f.out]))
   go_ret
   exact⟨rfl,by go_grown⟩
  ·go_enter func173,ntmps173;go_wp2_with (first|(go_at_call 200;refine(dY _ _ _ _ _ _ _).mono ?_;rintro e w' ⟨rfl,rfl⟩;rw[a.out])|(go_at_call 115;refine(jf _ _ m).mono ?_;rintro e w' ⟨rfl,rfl⟩;rw[f.out]))
   go_ret
   exact⟨rfl,by go_grown⟩
 rw[if_neg c];by_cases g:K=3
 ·subst g;rw[if_pos rfl];clear a f b c;cases i
  ·go_enter func173,ntmps173;go_wp2_with (go_at_call 200;refine(dY _ _ _ _ _ _ _).mono ?_;rintro e w' ⟨rfl,rfl⟩;rw[d.out])
   go_ret
   exact⟨rfl,by go_grown⟩
  ·go_enter func173,ntmps173;go_wp2_with (first|(go_at_call 200;refine(dY _ _ _ _ _ _ _).mono ?_;rintro e w' ⟨rfl,rfl⟩;rw[d.out])|(go_at_call 199;refine(rA _ _ _ _ _ _ _ _ _ _ _ _ _ _ _ _).mono ?_;rintro e w' ⟨rfl,rfl⟩;rw[j.out]))
   go_ret
   exact⟨rfl,by go_grown⟩
 rw[if_neg g];by_cases k:K=4
 ·subst k;rw[if_pos rfl];clear f b c g;cases h
  ·go_enter func173,ntmps173;go_wp2_with (go_at_call 200;refine(dY _ _ _ _ _ _ _).mono ?_;rintro e w' ⟨rfl,rfl⟩;rw[a.out])
   go_ret
   exact⟨rfl,by go_grown⟩
  cases i
  ·go_enter func173,ntmps173;go_wp2_with (go_at_call 200;refine(dY _ _ _ _ _ _ _).mono ?_;rintro e w' ⟨rfl,rfl⟩;first|rw[a.out]|rw[d.out])
   go_ret
   exact⟨rfl,by go_grown⟩
  ·go_enter func173,ntmps173;go_wp2_with (first|(go_at_call 200;refine(dY _ _ _ _ _ _ _).mono ?_;rintro e w' ⟨rfl,rfl⟩;first|rw[a.out]|rw[d.out])|(go_at_call 199;refine(rA _ _ _ _ _ _ _ _ _ _ _ _ _ _ _ _).mono ?_;rintro e w' ⟨rfl,rfl⟩;rw[j.out]))
   go_ret
   exact⟨rfl,by go_grown⟩
 rw[if_neg k];have x:(K==1)=false:=by simpa using b
 have y:(K==2)=false:=by simpa using c
 have z:(K==3)=false:=by simpa using g
 have A:(K==4)=false:=by simpa using k
 clear b c g k;go_enter func173,ntmps173;go_wp2_with fail
 go_ret
 exact⟨rfl,by go_grown⟩
theorem Ir(n:Nat)(a:Ac (n+1))(w:ah)(b:a.2.2.1.size<=maxLen):au 173 #[.agg (gZ (n+1) a).toArray] w λe w'=>e=aw (.bool (oO (n+1) a))/\ap w w':=by
 unfold maxLen at b;exact EH a.1 _ _ _ _ _ _ _ _ _ _ _ _ _ _ w (by omega) _ _ _ _ rfl rfl rfl rfl
end Go.Proofs.YthjclakhibnamaaGreatDoor
