/- What is proved here: plain facts and contracts that the claimed theorem stands on. No condition but those that each names. -/
import Derived.Test.YtckamaoibonjcaaGreatG17
namespace Go.Proofs.YtckamaoibonjcaaGreat
open Go.RowKit Go.Maps
set_option maxHeartbeats 1000000
set_option maxRecDepth 100000
abbrev cU:=List (Nat×Nat)
def look(g:cU)(p:Nat):Option Nat:=(g.find? λe=>e.1==p).map λe=>e.2
theorem rM(g:cU)(p q:Nat):look ((p,q)::g) p=some q:=by simp[look]
theorem pL(g:cU){p r:Nat}(q:Nat)(a:r≠p):look ((p,q)::g) r=look g r:=by
 have:(p==r)=false:=by simp;omega
 simp[look,this]
def gE(f:Wd->List Wd×cU->Wd×List Wd×cU):List Wd->List Wd×cU->List Wd×List Wd×cU
 | [],S=>([],S)
 | v::l,S=>((f v S).1::(gE f l (f v S).2).1,(gE f l (f v S).2).2)
def jv(ws:List Wd):Nat->Wd->List Wd×cU->Wd×List Wd×cU
 | 0,v,S=>(v,S)
 | n+1,v,S=>
  if v.1=4 then
   match look S.2 v.2.toNat with
   | some q=>((4,(q:Int)),S)
   | none=>
    match ws[v.2.toNat]? with
    | some a=>((4,((gE (jv ws n) ((ws.drop (v.2.toNat+1)).take a.2.toNat) S).2.1.length:Int)),(gE (jv ws n) ((ws.drop (v.2.toNat+1)).take a.2.toNat) S).2.1++(0,a.2)::(gE (jv ws n) ((ws.drop (v.2.toNat+1)).take a.2.toNat) S).1,(v.2.toNat,(gE (jv ws n) ((ws.drop (v.2.toNat+1)).take a.2.toNat) S).2.1.length)::(gE (jv ws n) ((ws.drop (v.2.toNat+1)).take a.2.toNat) S).2.2)
    | none=>(v,S)
  else (v,S)
theorem Hx(f:Wd->List Wd×cU->Wd×List Wd×cU)(l:List Wd)(v:Wd)(S:List Wd×cU):gE f (l++ [v]) S=((gE f l S).1++ [(f v (gE f l S).2).1],(f v (gE f l S).2).2):=by
 induction l generalizing S with
 | nil=>simp[gE]
 | cons a l ih=>simp[gE,ih]
theorem pD(f:Wd->List Wd×cU->Wd×List Wd×cU)(l:List Wd)(S:List Wd×cU):(gE f l S).1.length=l.length:=by
 induction l generalizing S with
 | nil=>simp[gE]
 | cons a l ih=>simp[gE,ih]
def tF(D:DataW Unit)(g:cU):Prop:=∀p:Nat,(Maps.has D (.int .i64 p)=true ↔ (look g p).isSome=true)/\∀q:Nat,look g p=some q->D.atKey (.int .i64 p) (.lit (.int .i64 0))=.lit (.int .i64 q)
theorem J0:tF (.map []) []:=λp=>⟨by simp[Maps.has,look],λq a=>by simp[look]at a⟩
theorem En(k:Int):WideAt.IsKeyLit (.int .i64 k):=by first|trivial|simp[WideAt.IsKeyLit]|decide
theorem J4{w:World}{j L:Nat}{D:DataW Unit}{g:cU}(f:w.ownsMap Tryz.prog 3 (plainElem Tryz.prog 3) j L D)(e:tF D g)(p q:Nat):tF (D.put (.int .i64 p) (.lit (.int .i64 q))) ((p,q)::g):=by
 intro c;by_cases b:c=p
 ·subst b;refine⟨?_,λi a=>?_⟩
  ·rw[has_put_same f.isMap (En _),rM];simp
  ·rw[rM]at a;rw[atKey_put_same f.isMap (En _),au a]
 ·have h:(Lit.int .i64 (c:Int))≠(Lit.int .i64 (p:Int)):=λd=>b (by injection d with _ d;omega);refine⟨?_,λi a=>?_⟩
  ·rw[has_put_other h,pL g q b];exact(e c).1
  ·rw[pL g q b]at a;rw[atKey_put_other h];exact(e c).2 i a
theorem CA:Keyed Tryz.prog 3:=int_keyed Tryz.underlying3
def CB(a:Nat)(b tv mv:Value)(w:World):Prop:=w.heap[a]?=some (.cells #[b,tv,mv] 269)
theorem CB.lt{a:Nat}{b tv mv:Value}{w:World}(c:CB a b tv mv w):a<w.heap.size:=(aD.1 c).1
theorem CB.cells{a:Nat}{b tv mv:Value}{w:World}(c:CB a b tv mv w):(w.cell? ⟨a,0,none⟩=some b/\w.cell? ⟨a,1,none⟩=some tv/\w.cell? ⟨a,2,none⟩=some mv)/\∀j,w.frozen? ⟨a,j,none⟩=false:=by
 unfold CB at c;refine⟨⟨?_,?_,?_⟩,λj=>?_⟩
 all_goals simp[World.cell?,World.frozen?,c]
theorem CB.set1{a:Nat}{b tv mv:Value}{w:World}(c:CB a b tv mv w)(v:Value):CB a b v mv (w.setCell ⟨a,1,none⟩ v):=by
 unfold CB at*;simp[World.setCell,bG,c]
theorem CB.kept{a:Nat}{b tv mv:Value}{w w':World}(c:CB a b tv mv w)(k:w'.heap[a]?=w.heap[a]?):CB a b tv mv w':=k.trans c
def ik(base e:Nat)(f:Value)(S:List Wd×cU)(M:Nat->Prop)(w:World):Prop:=
 ∃c a d,CB e f c (.map (some a)) w/\w.ownsRow base 105 2 c S.1.length (aW S.1)/\w.ownsMap Tryz.prog 3 (plainElem Tryz.prog 3) a S.2.length d/\tF d S.2/\M e/\(∀b,c.ownBlock=some b->M b)/\M a
theorem ik.kept{base a:Nat}{g:Value}{S:List Wd×cU}{M T:Nat->Prop}{w w':World}(q:ik base a g S M w)(k:bP T w w')(d:∀b,M b->b<w.heap.size->¬T b):ik base a g S M w':=by
 obtain⟨u,e,o,c,h,i,r,j,l,m⟩:=q;refine⟨u,e,o,c.kept (k.block a c.lt (d a j c.lt)),dO h k λb f=>d b (l b f) (h.lt b f).2,?_,r,j,l,m⟩;have n:=i.lt;obtain⟨es,p,s,t⟩:=i;exact⟨es,p,(k.block e n (d e m n)).trans s,t⟩
theorem ik.inside{base a:Nat}{d:Value}{S:List Wd×cU}{M:Nat->Prop}{w:World}(i:ik base a d S M w):ik base a d S (λb=>M b/\b<w.heap.size) w:=by
 obtain⟨o,n,h,e,f,g,j,k,l,m⟩:=i;exact⟨o,n,h,e,f,g,j,⟨k,e.lt⟩,λb c=>⟨l b c,(f.lt b c).2⟩,m,g.lt⟩
theorem ik.later{base c:Nat}{d:Value}{S:List Wd×cU}{M:Nat->Prop}{w wA:World}(a:ik base c d S M w)(e:Below w.heap.size w wA):ik base c d S (λb=>M b/\b<w.heap.size) wA:=
 a.inside.kept (aX e (λ_=>False)) λ_ _ _ a=>a
theorem ik.mono{base a:Nat}{c:Value}{S:List Wd×cU}{M T:Nat->Prop}{w:World}(f:ik base a c S M w)(k:∀b,M b->T b):ik base a c S T w:=by
 obtain⟨p,o,d,g,h,i,j,l,m,n⟩:=f;exact⟨p,o,d,g,h,i,j,k _ l,λb e=>k b (m b e),k _ n⟩
theorem I5(b:Nat)(k a:Int)(w:World)(c:¬k=4):Calls Tryz.prog 187 #[.pointer (some ⟨b,0,none⟩),.agg #[.int .i64 k,.int .i64 a]] w λe w'=>e=.returned (.agg #[.int .i64 k,.int .i64 a])/\Below w.heap.size w w':=by
 have d:(k !=4)=true:=by simpa using c
 go_enter Tryz.func187,Tryz.ntmps187;go_wp2_with fail;exact av (v:=.agg #[.int .i64 k,.int .i64 a]) (by simp[results,Tryz.results187,go_sem]) rfl ⟨rfl,by go_grown⟩
theorem LO{D:DataW Unit}{g:cU}(b:tF D g){p q:Nat}{c:Int}(d:look g p=some q)(a:D.atKey (.int .i64 p) (.lit (.int .i64 0))=.lit (.int .i64 c)):c=q:=by
 have:=(b p).2 q d;rw[this]at a;simp at a;exact a.symm
theorem Lh(base g:Nat)(x:Value)(S:List Wd×cU)(M:Nat->Prop)(p q:Nat)(w:World)(a:Hid (ik base g x S M w))(r:Hid (look S.2 p=some q))(P:p<=100000):Calls Tryz.prog 187 #[.pointer (some ⟨g,0,none⟩),.agg #[.int .i64 4,.int .i64 p]] w λe w'=>e=.returned (.agg #[.int .i64 4,.int .i64 q])/\Below w.heap.size w w':=by
 go_enter Tryz.func187,Tryz.ntmps187;go_wp2_with fail;generalize h:(w.alloc (Obj.cells #[Value.int IntKind.i64 4,Value.int IntKind.i64 p] 105)).alloc (Obj.cells #[.int .i64 0,.int .i64 0] 105)=wA;have j:Hid (Below w.heap.size w wA.drew/\wA.drew.heap.size=w.heap.size+2):=by
  subst h;exact⟨(((ap _ _).alloc (ak _) _).alloc (by simp) _).drew,by simp[World.drew]⟩
 have K:wA.cell? ⟨w.heap.size,1,none⟩=some (.int .i64 p):=by subst h;simp[go_sem]
 have l:Hid (zo (w.heap.size+1) wA.drew):=by
  subst h;have:=aB (w.alloc (Obj.cells #[Value.int IntKind.i64 4,Value.int IntKind.i64 p] 105)) (Obj.cells #[.int .i64 0,.int .i64 0] 105);have es:∀o,(w.alloc o).heap.size=w.heap.size+1:=λo=>by simp
  rw[es]at this;exact this
 obtain⟨d,J,D⟩:∃d,wA.cell? ⟨g,2,none⟩=some (.map (some d))/\(Instr.lookup 267 (.map (some d)) (.int .i64 p) true).run Tryz.prog wA.drew=.ok (.tuple #[.int .i64 q,.bool true]) wA.drew:=by
  obtain⟨Q,d,t,y,O,z,m,_⟩:=a.out.later j.out.1;obtain⟨v,ps,s,E⟩:=z.look_ok CA Tryz.underlying267 (rj _) (plainElem_int Tryz.underlying3 (ii (by omega))) (keyOf_int_mk Tryz.underlying3 (ii (n:=(p:Int)) (by omega)));obtain⟨c,rfl,B,_⟩:=plainElem_int_inv Tryz.underlying3 E;have e:=LO m r.out (congrArg Prod.fst B);have C:Maps.has t (.int .i64 p)=true:=(m p).1.2 (by rw[r.out];rfl);rw[C,e]at s;exact⟨d,y.cells.1.2.2,s⟩
 clear h a;go_region_held3 (λw'=>w'.cell? ⟨w.heap.size,1,none⟩=some (.int .i64 p)/\w'.cell? ⟨g,2,none⟩=some (.map (some d))) (go_keep) (fail);obtain⟨⟨H,I⟩,L,N⟩:=l.out.facts;have u:Hid (∀i k,Below w.heap.size w ((wA.drew.setCell ⟨w.heap.size+1,0,none⟩ i).setCell ⟨w.heap.size+1,1,none⟩ k)):=by
  intro i k;have F:=bk wA.drew (w.heap.size+1) 0 i;have G:=bk (wA.drew.setCell ⟨w.heap.size+1,0,none⟩ i) (w.heap.size+1) 1 k;have f:=(aX j.out.1 (λb=>b=w.heap.size+1)).trans (F.trans G (λb _ a=>a)) (λb _ a=>a);exact⟨f.os,f.tape,f.output,f.size,λb A=>f.block b A (by omega)⟩
 clear D l j;generalize wA.drew=R at*;go_wp2_with fail;exact av (v:=.agg #[.int .i64 4,.int .i64 q]) (by simp[results,Tryz.results187,go_sem,H,I]) rfl ⟨rfl,u.out _ _⟩
def vN(base a:Nat)(c:Value)(S:List Wd×cU)(M:Nat->Prop)(w w':World):Prop:=ik base a c S (λb=>M b\/w.heap.size<=b) w'/\bP M w w'
def xt(f:Wd->List Wd×cU->Wd×List Wd×cU)(vs:List Wd)(len base c:Nat)(d:Value)(S:List Wd×cU)(M:Nat->Prop)(g:Nat)(w a:World)(k:Nat)(wr:World):Prop:=
 wr.ownsRow g 105 2 (ae (some ⟨g,0,none⟩) len len) len (aW ((gE f (vs.take k) S).1++List.replicate (len-k) (0,0)))/\
 ik base c d (gE f (vs.take k) S).2 (λb=>(M b/\b<w.heap.size)\/a.heap.size<=b) wr/\
 bP (λb=>(M b/\b<w.heap.size)\/b=g) a wr
theorem Hf{f:Wd->List Wd×cU->Wd×List Wd×cU}{vs:List Wd}{len base g:Nat}{h:Value}{S:List Wd×cU}{M:Nat->Prop}{w w0:World}(d:ik base g h S M w)(e:w0.ownsRow w.heap.size 105 2 (ae (some ⟨w.heap.size,0,none⟩) len len) len (madeCells (Value.agg #[ab 0,ab 0]).cells (len*2)).toList)(a:w.grownBy w0 none):xt f vs len base g h S M w.heap.size w w0 0 w0/\aj w w0/\w.heap.size<w0.heap.size:=by
 have c:aj w w0:=⟨a.os,a.tape,a.output,a.size,λb c=>a.block b c (by simp)⟩;refine⟨⟨?_,?_,bP.refl _ _⟩,c,(e.lt _ rfl).2⟩
 ·simp only[List.take_zero,gE,mu,Nat.sub_zero];have i:=uz len;have j:(Value.agg #[ab 0,ab 0]).cells= #[ab 0,ab 0]:=rfl;rw[j,i]at e;exact e
 ·simp only[List.take_zero,gE];exact(d.later c).mono λb d=>ah d
theorem xt.step{f:Wd->List Wd×cU->Wd×List Wd×cU}{vs:List Wd}{len base i:Nat}{l:Value}{S:List Wd×cU}{M:Nat->Prop}{g:Nat}{w d:World}{k:Nat}{wr w1 w2:World}(H:xt f vs len base i l S M g w d k wr)(G:w.heap.size<=g)(I:g<d.heap.size)(K:k<len)(L:vs.length=len){v:Wd}(A:vs[k]?=some v)(m:aj wr w1)(z:vN base i l (f v (gE f (vs.take k) S).2).2 (λb=>((M b/\b<w.heap.size)\/d.heap.size<=b)/\b<wr.heap.size) w1 w2):xt f vs len base i l S M g w d (k+1) ((w2.setCell ⟨g,k*2,none⟩ (ab (f v (gE f (vs.take k) S).2).1.1)).setCell ⟨g,k*2+1,none⟩ (ab (f v (gE f (vs.take k) S).2).1.2))/\ (w2.cell? ⟨g,k*2,none⟩=some (ab 0)/\w2.cell? ⟨g,k*2+1,none⟩=some (ab 0))/\w2.frozen? ⟨g,k*2,none⟩=false/\w2.frozen? ⟨g,k*2+1,none⟩=false:=by
 obtain⟨o,E,p⟩:=H;obtain⟨u,q⟩:=z;have J:g<wr.heap.size:=(o.lt g rfl).2;have N:=m.size;have O:=p.size;have r:gE f (vs.take (k+1)) S=((gE f (vs.take k) S).1++ [(f v (gE f (vs.take k) S).2).1],(f v (gE f (vs.take k) S).2).2):=by
  rw[dz,A];exact Hx _ _ _ _
 have s:(gE f (vs.take k) S).1.length=k:=by rw[pD,dy];omega
 have h:w2.ownsRow g 105 2 (ae (some ⟨g,0,none⟩) len len) len (aW ((gE f (vs.take k) S).1++List.replicate (len-k) (0,0))):=by
  refine dO (dJ o m) q λb j=>?_;simp only[Value.ownBlock]at j;obtain rfl:=au j;omega
 generalize gE f (vs.take k) S=e at*;generalize f v e.2=c at*;have B:(e.1++List.replicate (len-k) (0,0))[k]?=some ((0,0):Wd):=by
  rw[ei (by omega),s,js,List.getElem?_replicate];simp;omega
 have C:=bk w2 g (k*2) (ab c.1.1);have D:=bk (w2.setCell ⟨g,k*2,none⟩ (ab c.1.1)) g (k*2+1) (ab c.1.2);have t:=C.trans D (λb _ a=>a);refine⟨⟨?_,?_,?_⟩,iK h k (0,0) B,ov h _,ov h _⟩
 ·rw[r];have n:=iW (iW h (k*2) (ab c.1.1)) (k*2+1) (ab c.1.2);rw[p8 _ k c.1 (by simp;omega)]at n;have es:(e.1++List.replicate (len-k) ((0,0):Wd)).set k c.1=(e.1++ [c.1])++List.replicate (len-(k+1)) (0,0):=by
   rw[ie _ _ (by omega)];have:len-k=(len-(k+1))+1:=by omega
   rw[this,List.replicate_succ];simp[s]
  rw[es]at n;exact n
 ·rw[r];refine(u.kept t ?_).mono ?_
  ·rintro b (⟨a,_⟩|a) _ j<;>omega
  ·rintro b (⟨a,_⟩|a)
   ·exact a
   ·exact ai (by omega)
 ·have x:bP (λb=>(M b/\b<w.heap.size)\/b=g) d w1:=p.trans (aX m (λ_=>False)) (λ_ _ a=>a.elim)
  have y:bP (λb=>(M b/\b<w.heap.size)\/b=g) d w2:=x.trans q (λb F a=>by
   rcases a.1 with a|a
   ·exact ah a
   ·omega)
  exact y.trans t (λb _ a=>ai a)
def BX(f:Wd->List Wd×cU->Wd×List Wd×cU)(vs:List Wd)(base c:Nat)(d:Value)(S:List Wd×cU)(M:Nat->Prop)(g:Nat)(w w':World):Prop:=
 ∃a,ik base c d (gE f vs S).2 a w'/\bP M w w'/\(∀b,a b->M b\/w.heap.size<=b)/\¬a g/\w.heap.size<=g/\w'.ownsRow g 105 2 (ae (some ⟨g,0,none⟩) vs.length vs.length) vs.length (aW (gE f vs S).1)
theorem xt.done{f:Wd->List Wd×cU->Wd×List Wd×cU}{vs:List Wd}{len base h:Nat}{i:Value}{S:List Wd×cU}{M:Nat->Prop}{g:Nat}{w d wr:World}(H:xt f vs len base h i S M g w d len wr)(m:vs.length=len)(l:w.heap.size<=g)(o:g<d.heap.size)(j:aj w d):BX f vs base h i S M g w wr:=by
 obtain⟨c,e,k⟩:=H;rw[bC (by omega)]at c e;rw[js,mw,eh]at c;subst m;refine⟨_,e,(aX j M).trans k ?_,?_,?_,l,c⟩
 ·rintro b n (a|a)
  ·exact a.1
  ·omega
 ·rintro b (a|a)
  ·exact ah a.1
  ·exact ai (by have:=j.size;omega)
 ·rintro (a|a)<;>omega
theorem xQ(f:Wd->List Wd×cU->Wd×List Wd×cU)(vs:List Wd)(base d:Nat)(i:Value)(S:List Wd×cU)(M:Nat->Prop)(a:Option Addr)(len pc:Nat)(w:World)(s:Hid (vs.length=len))(aa:len<=100000)(c:Hid (ik base d i S M w))(D:Hid (ez w vs a))(H:Hid (∀b o,a=some ⟨b,o,none⟩->¬M b))(ih:Hid (∀(k:Nat)(v:Wd),vs[k]?=some v->∀(M':Nat->Prop)(w1:World),ik base d i (gE f (vs.take k) S).2 M' w1->bP M w w1->(∀b,M' b->M b\/w.heap.size<=b)-> am 187 #[aF d,.agg #[ab v.1,ab v.2]] w1 λe w2=>e=.returned (.agg #[ab (f v (gE f (vs.take k) S).2).1.1,ab (f v (gE f (vs.take k) S).2).1.2])/\Hid (vN base d i (f v (gE f (vs.take k) S).2).2 M' w1 w2))):am 184 #[aF d,ae a len pc] w λe w'=>∃g,e=.returned (ae (some ⟨g,0,none⟩) len len)/\Hid (BX f vs base d i S M g w w'):=by
 obtain⟨Q,E,J,K,L⟩:=bS kH;go_enter Tryz.func184,Tryz.ntmps184;go_wp2_with (at_make;refine ky _ rfl _ _ 96 rfl w.heap.size 105 Q _ 2 Tryz.underlying96 E J K _ _ _ _ len rfl rfl rfl rfl (by rw[L];omega) (by unfold maxLen;omega) (ak _) ?_;intro p I C;have m:=ao (Hf (f:=f) (vs:=vs) c.out I C);clear I C);clear E J K L;have y:Hid (xt f vs len base d i S M w.heap.size w p 0 p):=m.out.1;have B:w.heap.size<p.heap.size:=m.out.2.2;go_loopw [13] (λj wr=>∃k:Nat,k<=len/\j=ab k/\Hid (xt f vs len base d i S M w.heap.size w p k wr)) (λj _=>len-(intOf j).toNat)
 case atStart=>exact⟨0,by omega,rfl,y.out⟩
 case round=>
  clear y;obtain⟨k,X,rfl,h⟩:=hrel;by_cases G:k<len
  ·obtain⟨v,l⟩:∃v,vs[k]?=some v:=⟨vs[k]'(by rw[s.out];exact G),aH _⟩;obtain⟨b,o,rfl,A,N⟩:∃b o,a=some ⟨b,o,none⟩/\b<w.heap.size/\∀(j:Nat)(v:Wd),vs[j]?=some v->w.cell? ⟨b,o+j*2,none⟩=some (ab v.1)/\w.cell? ⟨b,o+j*2+1,none⟩=some (ab v.2):=by
    rcases D.out with e|e
    ·rw[e]at l;simp at l
    ·exact e
   obtain⟨t,u⟩:=N k v l;have r:wr.heap[b]?=w.heap[b]? :=(h.out.2.2.block b (by omega) (by rintro (c|c);exact H.out b o rfl c.1;omega)).trans (m.out.2.1.block b A);replace t:=(bt r (o+k*2)).trans t;replace u:=(bt r (o+k*2+1)).trans u;have W:w.heap.size<wr.heap.size:=(h.out.1.lt _ rfl).2;have ad:=h.out.2.2.size;have F:bP M w wr:=(aX m.out.2.1 M).trans h.out.2.2 (by rintro b A (c|c);exact c.1;omega)
   obtain⟨n,x⟩:∃n:Wd,Hid (∀w1,aj wr w1->am 187 #[aF d,.agg #[ab v.1,ab v.2]] w1 λe w2=>e=.returned (.agg #[ab n.1,ab n.2])/\
       Hid (xt f vs len base d i S M w.heap.size w p (k+1) ((w2.setCell ⟨w.heap.size,k*2,none⟩ (ab n.1)).setCell ⟨w.heap.size,k*2+1,none⟩ (ab n.2))/\
        (w2.cell? ⟨w.heap.size,k*2,none⟩=some (ab 0)/\w2.cell? ⟨w.heap.size,k*2+1,none⟩=some (ab 0))/\w2.frozen? ⟨w.heap.size,k*2,none⟩=false/\w2.frozen? ⟨w.heap.size,k*2+1,none⟩=false)):=by
    refine⟨(f v (gE f (vs.take k) S).2).1,λw1 q=>?_⟩;refine(ih.out k v l _ w1 (h.out.2.1.later q) (F.trans (aX q M) (λ_ _ c=>c)) ?_).mono ?_
    ·rintro b ⟨c|c,_⟩
     ·exact ah c.1
     ·exact ai (by omega)
    ·rintro e w2 ⟨rfl,P⟩;exact⟨rfl,h.out.step (ak _) B G s.out l q P.out⟩
   clear ih h D N l H r F;have Y:(0:Int)<=(k:Int):=by omega
   have Z:(k:Int)<(len:Int):=by omega
   have V:b<wr.heap.size:=by omega
   go_wp2_with fail;refine(x.out _ ((ap _ _).alloc (ak _) _)).mono ?_;rintro e w2 ⟨rfl,z⟩;obtain⟨⟨R,d1⟩,T,U⟩:=z.out.2;clear x t u;go_wp2_with fail;go_roundw
   case rel=>exact⟨k+1,by omega,by go_num,z.out.1⟩
   case measure=>simp[intOf];omega
  ·obtain rfl:k=len:=by omega
   have O:=ao (h.out.done s.out (ak _) B m.out.2.1);clear h ih;go_wp2_with fail
   go_ret
   exact⟨_,rfl,O.out⟩
theorem Jn{w:World}{base:Nat}{e:TypeId}{s n:Nat}{v:Value}{xs:List Value}{b:Nat}{c tv mv:Value}(f:w.ownsRow base e s v n xs)(h:CB b c tv mv w)(j:e≠269):v.ownBlock≠some b:=λe=>by
 rcases f.2 with⟨rfl,_⟩|⟨d,cap,k,rfl,_,i,_⟩
 ·simp[Value.ownBlock]at e
 ·simp[Value.ownBlock]at e;subst e;have a:w.heap[d]?=_:=h;rw[i]at a;injection a with a;injection a with a g;exact j g
theorem Ba{w:World}{base:Nat}{e:TypeId}{s n L c:Nat}{v:Value}{xs:List Value}{D:DataW Unit}(d:w.ownsRow base e s v n xs)(f:w.ownsMap Tryz.prog 3 (plainElem Tryz.prog 3) c L D):v.ownBlock≠some c:=λa=>by
 rcases d.2 with⟨rfl,_⟩|⟨g,cap,j,rfl,_,h,_⟩
 ·simp[Value.ownBlock]at a
 ·simp only[Value.ownBlock]at a;obtain rfl:=au a;obtain⟨es,i,b,_⟩:=f;rw[h]at b;cases b
theorem uC{w:World}{L a b:Nat}{D:DataW Unit}{d tv mv:Value}(f:w.ownsMap Tryz.prog 3 (plainElem Tryz.prog 3) a L D)(e:CB b d tv mv w):a≠b:=by
 rintro rfl;obtain⟨es,h,g,_⟩:=f;have c:w.heap[a]?=_:=e;rw[g]at c;cases c
theorem Om(base d:Nat)(n:Value)(S:List Wd×cU)(M:Nat->Prop)(ps:List Wd)(m pc:Nat)(pa:Option Addr)(w:World)(z:ik base d n S M w)(E:base<=w.heap.size)(C:S.1.length<=100000)(I:ps.length=m)(D:m<=1000)(u:∀w1,bP M w w1->eM w1 ps pa):am 130 #[.pointer (some ⟨d,1,none⟩),ae pa m pc] w λe w'=>e=.returned (.agg #[ab 4,ab S.1.length])/\Hid (vN base d n (S.1++(0,(m:Int))::ps,S.2) M w w'):=by
 obtain⟨q,p,s,a,f,g,A,h,i,B⟩:=z;obtain⟨⟨R,v,T⟩,F⟩:=a.cells;obtain⟨j,l,K⟩:∃j l,q=ae j S.1.length l:=by
  rcases f.2 with⟨e,y⟩|⟨V,c,U,e,_⟩
  ·exact⟨none,0,by rw[e,y]⟩
  ·exact⟨_,c,e⟩
 subst I;refine(zt base d 1 q j l S.1.length S.1 ps ps.length pc pa w K rfl rfl C D E v (F 1) a.lt (Jn f a (by decide)) f ?_).mono ?_
 ·intro w1 k;refine u w1 (k.mono ?_);rintro b (rfl|e)
  ·exact h
  ·exact i b e
 ·rintro e w' ⟨rfl,r,t⟩;obtain⟨O,P,o,Q⟩:=t.out;refine⟨rfl,⟨r,p,s,(a.set1 r).kept P,?_,?_,A,ah h,?_,ah B⟩,o.mono ?_⟩
  ·have e:(S.1++(0,(ps.length:Int))::ps).length=S.1.length+1+ps.length:=by simp;omega
   rw[e];exact O
  ·have H:=g.lt;have L:=uC g a;have N:=Ba f g;obtain⟨es,x,G,J⟩:=g;refine⟨es,x,(o.block p H ?_).trans G,J⟩;rintro (e|e)
   ·exact L e
   ·exact N e
  ·intro b e;rcases Q b e with e|e
   ·exact ah (i b e)
   ·exact ai e
  ·rintro b (rfl|e)
   ·exact h
   ·exact i b e
theorem Li{base e:Nat}{h:Value}{S:List Wd×cU}{M:Nat->Prop}{w:World}(m:ik base e h S M w)(p q:Nat)(A:p<=100000)(B:q<=100000)(z:S.2.length<=100000):∃a,w.cell? ⟨e,2,none⟩=some (.map (some a))/\∃w4,(Instr.mapUpdate 267 (.map (some a)) (.int .i64 p) (.int .i64 q)).run Tryz.prog w=.ok () w4/\ik base e h (S.1,(p,q)::S.2) M w4/\bP (λb=>b=a) w w4/\M a/\a<w.heap.size/\w4.cell? ⟨e,2,none⟩=some (.map (some a)):=by
 obtain⟨x,a,y,d,i,f,o,r,s,j⟩:=m;obtain⟨w4,v,u,t⟩:=f.update CA Tryz.underlying267 (by unfold maxLen;omega) (keyOf_int_mk Tryz.underlying3 (ii (n:=(p:Int)) (by omega))) (plainElem_int Tryz.underlying3 (ii (n:=(q:Int)) (by omega)));have k:=CE t;have g:bP (λb=>b=a) w w4:=k.mono λb c=>(au c).symm;refine⟨a,d.cells.1.2.2,w4,v,⟨x,a,_,d.kept (g.block e d.lt (λc=>uC f d c.symm)),dO i g ?_,u,J4 f o p q,r,s,j⟩,g,j,f.lt,(d.kept (g.block e d.lt (λc=>uC f d c.symm))).cells.1.2.2⟩;intro b c l;subst l;exact Ba i f c
theorem Cj(w:World)(a b:Int):(Instr.field 105 (.agg #[.int .i64 a,.int .i64 b]) 1).run Tryz.prog w=.ok (.int .i64 b) w:=by kernel_rfl
theorem Lg(base a:Nat)(H:Value)(S:List Wd×cU)(M:Nat->Prop)(p q f L h n:Nat)(w:World)(u:World->Prop)(I:Hid (ik base a H S M w))(U:H=.slice (some ⟨f,0,none⟩) L h)(W:Hid (look S.2 p=none))(ay:p<=100000)(z:Hid (∀b,Below w.heap.size w b->w.heap.size+2<=b.heap.size->Calls Tryz.prog 135 #[.slice (some ⟨f,0,none⟩) L h,.int .i64 p] b λe w'=>w'=b/\∃o pc,e=.returned (.slice (some ⟨f,o,none⟩) n pc)/\ Hid (Calls Tryz.prog 184 #[.pointer (some ⟨a,0,none⟩),.slice (some ⟨f,o,none⟩) n pc] b λe w2=>∃g,e=.returned (.slice (some ⟨g,0,none⟩) n n)/\ Hid ((∀j,w2.cell? ⟨w.heap.size,j,none⟩=b.cell? ⟨w.heap.size,j,none⟩)/\w2.cell? ⟨a,0,none⟩=some (.slice (some ⟨f,0,none⟩) L h)/\ Calls Tryz.prog 130 #[.pointer (some ⟨a,1,none⟩),.slice (some ⟨g,0,none⟩) n n] w2 λe k=>e=.returned (.agg #[.int .i64 4,.int .i64 q])/\ Hid ((∀j,k.cell? ⟨w.heap.size,j,none⟩=b.cell? ⟨w.heap.size,j,none⟩)/\k.cell? ⟨a,0,none⟩=some (.slice (some ⟨f,0,none⟩) L h)/\ ∃d w4,k.cell? ⟨a,2,none⟩=some (.map (some d))/\(Instr.mapUpdate 267 (.map (some d)) (.int .i64 p) (.int .i64 q)).run Tryz.prog k.drew=.ok () w4/\(∀j,w4.cell? ⟨w.heap.size,j,none⟩=b.cell? ⟨w.heap.size,j,none⟩)/\w4.cell? ⟨a,2,none⟩=some (.map (some d))/\ (zo (w.heap.size+1) b->zo (w.heap.size+1) w4)/\∀v0 v1,u ((w4.setCell ⟨w.heap.size+1,0,none⟩ v0).setCell ⟨w.heap.size+1,1,none⟩ v1)))))):Calls Tryz.prog 187 #[.pointer (some ⟨a,0,none⟩),.agg #[.int .i64 4,.int .i64 p]] w λe w'=>e=.returned (.agg #[.int .i64 4,.int .i64 q])/\u w':=by
 subst U;go_enter Tryz.func187,Tryz.ntmps187;go_wp2_with fail;generalize t:(w.alloc (Obj.cells #[Value.int IntKind.i64 4,Value.int IntKind.i64 p] 105)).alloc (Obj.cells #[.int .i64 0,.int .i64 0] 105)=wA;have l:Hid (Below w.heap.size w wA.drew/\wA.drew.heap.size=w.heap.size+2):=by
  subst t;exact⟨(((ap _ _).alloc (ak _) _).alloc (by simp) _).drew,by simp[World.drew]⟩
 have G:wA.cell? ⟨w.heap.size,1,none⟩=some (.int .i64 p):=by subst t;simp[go_sem]
 have C:Hid (zo (w.heap.size+1) wA.drew):=by
  subst t;have:=aB (w.alloc (Obj.cells #[Value.int IntKind.i64 4,Value.int IntKind.i64 p] 105)) (Obj.cells #[.int .i64 0,.int .i64 0] 105);have es:∀o,(w.alloc o).heap.size=w.heap.size+1:=λo=>by simp
  rw[es]at this;exact this
 obtain⟨d,F,E,P,X⟩:∃d,∃F:Int,wA.cell? ⟨a,0,none⟩=some (.slice (some ⟨f,0,none⟩) L h)/\wA.cell? ⟨a,2,none⟩=some (.map (some d))/\(Instr.lookup 267 (.map (some d)) (.int .i64 p) true).run Tryz.prog wA.drew=.ok (.tuple #[.int .i64 F,.bool false]) wA.drew:=by
  obtain⟨az,d,x,J,aw,Q,R,_⟩:=I.out.later l.out.1;obtain⟨v,ps,K,Z⟩:=Q.look_ok CA Tryz.underlying267 (rj _) (plainElem_int Tryz.underlying3 (ii (by omega))) (keyOf_int_mk Tryz.underlying3 (ii (n:=(p:Int)) (by omega)));obtain⟨c,rfl,ax,_⟩:=plainElem_int_inv Tryz.underlying3 Z;have V:Maps.has x (.int .i64 p)=false:=by
   cases hx:Maps.has x (.int .i64 p)
   ·rfl
   ·have:=(R p).1.1 hx;rw[W.out]at this;simp at this
  rw[V]at K;exact⟨d,c,J.cells.1.1,J.cells.1.2.2,K⟩
 clear t I;go_region_held3 (λw'=>w'.cell? ⟨w.heap.size,1,none⟩=some (.int .i64 p)/\w'.cell? ⟨a,2,none⟩=some (.map (some d))) (go_keep) (fail);have s:wA.drew.cell? ⟨w.heap.size,1,none⟩=some (.int .i64 p):=G;have O:wA.drew.cell? ⟨a,0,none⟩=some (.slice (some ⟨f,0,none⟩) L h):=E;clear X G E P;generalize wA.drew=b at*;have B:=ao (z.out b.drew l.out.1.drew (by have:=l.out.2;show w.heap.size+2<=b.heap.size;omega));clear z;have T:=Cj;go_wp2_with fail
 go_region_held3 (λw'=>w'.cell? ⟨w.heap.size,1,none⟩=some (.int .i64 p)/\w'.cell? ⟨a,0,none⟩=some (.slice (some ⟨f,0,none⟩) L h)) (go_keep) ((first
  | (go_at_call 135;refine B.out.mono ?_;rintro e w2 ⟨rfl,o,pc,rfl,y⟩;clear B)
  | (go_at_call 184;refine y.out.mono ?_;rintro e w2 ⟨g,rfl,m⟩;have al:=(m.out.1 1).trans s;have am:=m.out.2.1;clear y)
  | (go_at_call 130;refine m.out.2.2.mono ?_;rintro e k ⟨rfl,r⟩;have y1:=(r.out.1 1).trans s;have y2:=r.out.2.1;clear m)))
 obtain⟨i,w4,aj,Y,D,aq,A,N⟩:∃i w4,k.cell? ⟨a,2,none⟩=some (.map (some i))/\(Instr.mapUpdate 267 (.map (some i)) (.int .i64 p) (.int .i64 q)).run Tryz.prog k.drew=.ok () w4/\Hid (∀j,w4.cell? ⟨w.heap.size,j,none⟩=b.drew.cell? ⟨w.heap.size,j,none⟩)/\w4.cell? ⟨a,2,none⟩=some (.map (some i))/\Hid (zo (w.heap.size+1) w4)/\Hid (∀v0 v1,u ((w4.setCell ⟨w.heap.size+1,0,none⟩ v0).setCell ⟨w.heap.size+1,1,none⟩ v1)):=by
  obtain⟨i,w4,aa,ab,ad,ae,af,ag⟩:=r.out.2.2;exact⟨i,w4,aa,ab,ad,ae,af C.out,ag⟩
 have an:=(D.out 1).trans s;obtain⟨⟨ah,ai⟩,ar,au⟩:=A.out.facts;clear r D A C l al am y2 O s T;go_wp2_with fail;go_region_held3 (λw'=>w'.cell? ⟨w.heap.size,1,none⟩=some (.int .i64 p)/\w'.cell? ⟨a,2,none⟩=some (.map (some i))) (go_keep) (fail);clear Y aj y1 an aq;go_wp2_with fail;exact av (v:=.agg #[.int .i64 4,.int .i64 q]) (by simp[results,Tryz.results187,go_sem,ah,ai]) rfl ⟨rfl,N.out _ _⟩
def cg(ws:List Wd)(p n:Nat):List Wd:=(ws.drop (p+1)).take n
theorem CZ{ws:List Wd}{p n i:Nat}(a:i<n):(cg ws p n)[i]?=ws[p+1+i]? :=by
 unfold cg;rw[r9 a,km]
theorem kN{ws:List Wd}{p n:Nat}(a:p+1+n<=ws.length):(cg ws p n).length=n:=by
 unfold cg;rw[dy,eH];omega
def gt(ws:List Wd)(nm:List ByteArray)(n:Nat)(l:List Wd)(p:List (Tm n)):Prop:=l.length=p.length/\∀(i:Nat)(v:Wd)(y:Tm n),l[i]?=some v->p[i]?=some y->dB ws nm n y v
theorem tX{ws:List Wd}{n:Nat}{v:Wd}{S:List Wd×cU}(a:v.1≠4):jv ws n v S=(v,S):=by
 cases n with
 | zero=>rfl
 | succ n=>simp[jv,a]
theorem D0{ws:List Wd}{n p q:Nat}{S:List Wd×cU}(a:look S.2 p=some q):jv ws (n+1) (4,(p:Int)) S=((4,(q:Int)),S):=by
 simp[jv,a]
theorem xR{ws:List Wd}{n p m:Nat}{S:List Wd×cU}(a:look S.2 p=none)(b:ws[p]?=some (0,(m:Int))):jv ws (n+1) (4,(p:Int)) S= ((4,((gE (jv ws n) (cg ws p m) S).2.1.length:Int)),(gE (jv ws n) (cg ws p m) S).2.1++(0,(m:Int))::(gE (jv ws n) (cg ws p m) S).1,(p,(gE (jv ws n) (cg ws p m) S).2.1.length)::(gE (jv ws n) (cg ws p m) S).2.2):=by
 simp[jv,a,b,cg]
theorem oe{ws:List Wd}{nm:List ByteArray}{n:Nat}(ih:∀(x:Tm n)(v:Wd)(S:List Wd×cU),dB ws nm n x v->((jv ws n v S).2.1.length:Int)<=S.1.length+sz n x/\(jv ws n v S).2.2.length<=S.2.length+(aw n x).length):(l:List Wd)->(p:List (Tm n))->(S:List Wd×cU)->gt ws nm n l p->((gE (jv ws n) l S).2.1.length:Int)+p.length<=S.1.length+(p.map λy=>1+sz n y).sum/\(gE (jv ws n) l S).2.2.length<=S.2.length+(p.flatMap λy=>aw n y).length
 | [],[],S,_=>by simp[gE]
 | [],_::_,_,h=>by have:=h.1;simp at this
 | _::_,[],_,h=>by have:=h.1;simp at this
 | v::l,y::p,S,h=>by
  obtain⟨e,f⟩:=ih y v S (h.2 0 v y rfl rfl);obtain⟨g,j⟩:=oe ih l p (jv ws n v S).2 ⟨by have:=h.1;simpa using this,λi c d a b=>h.2 (i+1) c d (by simpa using a) (by simpa using b)⟩;simp only[gE,aK,bv,bB,bj,aZ];exact⟨by omega,by omega⟩
theorem jg{ws:List Wd}{nm:List ByteArray}{n:Nat}{x:Tm (n+1)}{v:Wd}(i:dB ws nm (n+1) x v)(j:x.1.1=4):∃p:Nat,v=(4,(p:Int))/\ws[p]?=some (0,(x.2.2.length:Int))/\p+1+x.2.2.length<=ws.length/\gt ws nm n (cg ws p x.2.2.length) x.2.2:=by
 obtain⟨p,d,e,a,f⟩:=i.2.1 j;refine⟨p,d,e,a,kN a,λk o l b c=>?_⟩;obtain⟨m,g,h⟩:=f k l c;rw[CZ (aR.1 c).1,g]at b;obtain rfl:=au b;exact h
theorem iz{ws:List Wd}{nm:List ByteArray}{n:Nat}{x:Tm (n+1)}{v:Wd}(a:dB ws nm (n+1) x v)(c:x.1.1≠4):v.1≠4:=by
 by_cases b:x.1.1=2
 ·obtain⟨d,rfl,_⟩:=a.1 b;simp
 ·rw[a.2.2 b c];exact c
theorem rF{ws:List Wd}{nm:List ByteArray}:(n:Nat)->(x:Tm n)->(v:Wd)->(S:List Wd×cU)->dB ws nm n x v->((jv ws n v S).2.1.length:Int)<=S.1.length+sz n x/\(jv ws n v S).2.2.length<=S.2.length+(aw n x).length
 | 0,_,_,_,h=>h.elim
 | n+1,x,v,S,h=>by
  have k:=(eE (n+1) x).1;by_cases c:x.1.1=4
  ·obtain⟨p,rfl,g,f,i⟩:=jg h c;cases hk:look S.2 p with
   | some q=>
    rw[D0 hk];exact⟨by simp only;omega,by simp only;omega⟩
   | none=>
    rw[xR hk g];obtain⟨a,b⟩:=oe (λx v S d=>rF n x v S d) (cg ws p x.2.2.length) x.2.2 S i;have e:=pD (jv ws n) (cg ws p x.2.2.length) S;rw[kN f]at e;have j:(aw (n+1) x).length=1+(x.2.2.flatMap λy=>aw n y).length:=by simp[aw];omega
    simp only[bj,aZ,e,sz,if_pos c,j];exact⟨by omega,by omega⟩
  ·rw[tX (iz h c)];exact⟨by simp only;omega,by simp only;omega⟩
def Mp(ws:List Wd)(nm:List ByteArray)(n:Nat):Prop:=∀(x:Tm n)(v:Wd)(base c d:Nat)(a:Value)(S:List Wd×cU)(M:Nat->Prop)(w:World),ik base c a S M w->w.ownsRow d 105 2 a ws.length (aW ws)->(∀b,a.ownBlock=some b->¬M b)->base<=w.heap.size->dB ws nm n x v->az ⟨n,x⟩->ws.length<=100000->(S.1.length:Int)+sz n x<=90000->S.2.length+(aw n x).length<=90000->
 am 187 #[aF c,G4 v] w λe w'=>e=.returned (G4 (jv ws n v S).1)/\Hid (vN base c a (jv ws n v S).2 M w w')
theorem LA(n:Nat)(p:List (Tm n))(k:Nat)(x:Tm n)(d:p[k]?=some x):((p.take k).map λy=>1+sz n y).sum+(1+sz n x)<=(p.map λy=>1+sz n y).sum:=by
 obtain⟨c,rfl⟩:=aR.1 d;have a:p=p.take k++p[k]::p.drop (k+1):=by
  rw[<-eV c,jp]
 have b:∀l:List (Tm n),0<=(l.map λy=>1+sz n y).sum:=by
  intro l
  induction l with
  | nil=>simp
  | cons y l ih=>
   have:=(eE n y).1;simp only[aK,bv];omega
 have e:=b (p.drop (k+1))
 conv=>rhs;rw[a]
 simp only[fJ,List.sum_append,aK,bv];omega
theorem gt.take{ws:List Wd}{nm:List ByteArray}{n:Nat}{l:List Wd}{p:List (Tm n)}(c:gt ws nm n l p)(k:Nat):gt ws nm n (l.take k) (p.take k):=by
 refine⟨by simp[c.1],λe f g a b=>?_⟩;rw[ko]at a b;split at a
 ·rename_i d;rw[if_pos d]at b;exact c.2 e f g a b
 ·cases a
theorem sk(ws:List Wd)(nm:List ByteArray)(n:Nat)(ih:Mp ws nm n)(vs:List Wd)(p:List (Tm n))(base d l:Nat)(c:Value)(S:List Wd×cU)(M:Nat->Prop)(a:Option Addr)(pc:Nat)(w:World)(u:ik base d c S M w)(r:w.ownsRow l 105 2 c ws.length (aW ws))(m:∀b,c.ownBlock=some b->¬M b)(I:base<=w.heap.size)(j:gt ws nm n vs p)(E:∀y∈p,az ⟨n,y⟩)(F:ws.length<=100000)(C:vs.length<=100000)(L:(S.1.length:Int)+(p.map λy=>1+sz n y).sum<=90000)(J:S.2.length+(p.flatMap λy=>aw n y).length<=90000)(A:ez w vs a)(D:∀b o,a=some ⟨b,o,none⟩->¬M b):am 184 #[aF d,ae a vs.length pc] w λe w'=>∃g,e=.returned (ae (some ⟨g,0,none⟩) vs.length vs.length)/\Hid (BX (jv ws n) vs base d c S M g w w'):=by
 refine xQ (jv ws n) vs base d c S M a vs.length pc w rfl C u A D ?_;intro k i s t G x q v;have B:=(aR.1 s).1;obtain⟨y,h⟩:∃y,p[k]?=some y:=⟨p[k]'(by rw[<-j.1];exact B),aH _⟩;obtain⟨P,Q⟩:=oe (λH i S z=>rF n H i S z) (vs.take k) (p.take k) S (j.take k);have N:=LA n p k y h;have O:=Az n p k y h;have K:=q.size;refine ih y i base d l c _ t G x (dO r q λb e=>m b e) ?_ (by omega) (j.2 k i y s h) (E y (aG h)) F (by omega) (by omega);intro b e f;rcases v b f with f|f
 ·exact m b e f
 ·have:=(r.lt b e).2;omega
theorem tS{base b:Nat}{c:Value}{S:List Wd×cU}{M:Nat->Prop}{w w':World}(a:ik base b c S M w)(d:aj w w'):vN base b c S M w w':=
 ⟨(a.later d).mono λ_ a=>ah a.1,aX d M⟩
theorem Lj(ws:List Wd)(nm:List ByteArray)(n:Nat)(ih:Mp ws nm n)(ps:List (Tm n))(p:Nat)(base i t:Nat)(l:Value)(S:List Wd×cU)(M:Nat->Prop)(w:World)(c:ik base i l S M w)(F:w.ownsRow t 105 2 l ws.length (aW ws))(P:∀b,l.ownBlock=some b->¬M b)(aT:base<=w.heap.size)(aD:ws[p]?=some (0,(ps.length:Int)))(R:p+1+ps.length<=ws.length)(U:gt ws nm n (cg ws p ps.length) ps)(aE:∀y∈ps,az ⟨n,y⟩)(aR:ps.length<=8)(V:ws.length<=100000)(aH:(S.1.length:Int)+(ps.map λy=>1+sz n y).sum<=90000)(aC:S.2.length+(ps.flatMap λy=>aw n y).length<=90000)(aA:look S.2 p=none):am 187 #[aF i,G4 (4,(p:Int))] w λe w'=>e=.returned (G4 (4,((gE (jv ws n) (cg ws p ps.length) S).2.1.length:Int)))/\ Hid (vN base i l ((gE (jv ws n) (cg ws p ps.length) S).2.1++(0,(ps.length:Int))::(gE (jv ws n) (cg ws p ps.length) S).1,(p,(gE (jv ws n) (cg ws p ps.length) S).2.1.length)::(gE (jv ws n) (cg ws p ps.length) S).2.2) M w w'):=by
 obtain⟨d,u,Q,_,_⟩:=F.form (by omega);have E:=kN R;obtain⟨a1,a2⟩:=oe (λaN aK S ar=>rF n aN aK S ar) (cg ws p ps.length) ps S U;refine Lg base i l S M p _ d ws.length u ps.length w _ c Q aA (by omega) ?_;intro Y j aS;subst Q;have aU:=(F.lt d rfl).2;have T:Y.ownsRow t 105 2 (ae (some ⟨d,0,none⟩) ws.length u) ws.length (aW ws):=dJ F j;refine(wI t d ws.length u p ps.length ws Y V T aD R).mono ?_;rintro e w' ⟨rfl,pa,pc,rfl,_,aG,o,rfl⟩;refine⟨rfl,o,pc,rfl,?_⟩;have av:ez w' (cg ws p ps.length) (some ⟨d,o,none⟩):=BN aG (by have:=j.size;omega);have O:=sk ws nm n ih (cg ws p ps.length) ps base i t (ae (some ⟨d,0,none⟩) ws.length u) S _ (some ⟨d,o,none⟩) pc w' (c.later j) T (λb e a=>P b e a.1) (by have:=j.size;omega) U aE V (by omega) aH aC av (λb a0 e a=>P b (by injection e with e;injection e with e;subst e;rfl) a.1);rw[E]at O;refine O.mono ?_;rintro e aM ⟨g,rfl,ab⟩;obtain⟨A,G,s,ad,af,aO,H⟩:=ab.out;rw[E]at H;have v:∀b,A b->(M b/\b<w.heap.size)\/w'.heap.size<=b:=ad;have aV:=s.size;refine⟨g,rfl,λm=>bt (s.block _ (by omega) (λa=>by omega)) m,?_,?_⟩
 ·obtain⟨aJ,x,Z,q,_⟩:=G;exact q.cells.1.1
 refine(Om base i _ _ A (gE (jv ws n) (cg ws p ps.length) S).1 ps.length ps.length (some ⟨g,0,none⟩) aM G (by have:=j.size;omega) (by omega) (by rw[pD];exact E) (by omega) ?_).mono ?_
 ·intro a3 ay;exact ai ⟨_,rfl,(dO H ay (λb e=>by simp only[Value.ownBlock]at e;obtain rfl:=au e;exact af)).cells (g:=g) rfl⟩
 rintro e r ⟨rfl,aa⟩;obtain⟨I,B⟩:=aa.out;have aY:=B.size;have D:∀b,w.heap.size<=b->b<w.heap.size+2->¬A b:=λb f h a=>by
  rcases v b a with k|k<;>omega
 have L:∀b,w.heap.size<=b->b<w.heap.size+2->r.heap[b]?=w'.heap[b]? :=λb f h=>(B.block b (by omega) (D b f h)).trans (s.block b (by omega) (λa=>by omega));refine⟨rfl,λm=>bt (L _ (ak _) (by omega)) m,?_,?_⟩
 ·obtain⟨aJ,x,Z,q,_⟩:=I;exact q.cells.1.1
 have bd:aj r r.drew:=(ap _ _).drew;have ag:=I.kept (aX bd (λ_=>False)) (λ_ _ _ c=>c);obtain⟨x,al,z,an,ao,C,J,aP,aq⟩:=Li ag p (gE (jv ws n) (cg ws p ps.length) S).2.1.length (by omega) (by omega) (by simp only;omega);have aB:∀b,w.heap.size<=b->b<w.heap.size+2->b≠x:=λb f h e=>by
  subst e;rcases J with k|k
  ·exact D _ f h k
  ·omega
 have aZ:=C.size;have aQ:r.drew.heap.size=r.heap.size:=rfl;have N:∀b,w.heap.size<=b->b<w.heap.size+2->z.heap[b]?=w'.heap[b]? :=λb f h=>(C.block b (by omega) (aB b f h)).trans (L b f h);refine⟨x,z,al,an,λm=>bt (N _ (ak _) (by omega)) m,aq,λax=>(N _ (by omega) (by omega)).trans ax,λX aL=>?_⟩;have q:=bk z (w.heap.size+1) 0 X;have aI:=bk (z.setCell ⟨w.heap.size+1,0,none⟩ X) (w.heap.size+1) 1 aL;have W:=q.trans aI (λb _ c=>c);refine⟨(ao.kept W ?_).mono ?_,?_⟩
 ·rintro b (a|a) _ rfl
  ·exact D _ (by omega) (by omega) a
  ·omega
 ·rintro b (a|a)
  ·rcases v b a with k|k
   ·exact ah k.1
   ·exact ai (by omega)
  ·exact ai (by omega)
 ·refine(((((aX j M).trans s ?_).trans B ?_).trans (aX bd (λ_=>False)) ?_).trans C ?_).trans W ?_
  ·exact λb _ a=>a.1
  ·intro b K a;rcases v b a with k|k
   ·exact k.1
   ·omega
  ·exact λ_ _ c=>c.elim
  ·rintro b K rfl;rcases J with k|k
   ·rcases v _ k with k|k
    ·exact k.1
    ·omega
   ·omega
  ·intro b K c;omega
theorem Lf(ws:List Wd)(nm:List ByteArray)(n:Nat):Mp ws nm n:=by
 induction n with
 | zero=>intro a o i d p j c h g _ _ _ _ f;exact f.elim
 | succ n ih=>
  intro a o i d p j c h g e z v u f s B G F;have w:=s (bA n a) (by simp[aw,bA]);have y:a.2.2.length<=8:=lO (bA n a) w;have H:(aw (n+1) a).length=1+(a.2.2.flatMap λb=>aw n b).length:=by simp[aw];omega
  by_cases k:a.1.1=4
  ·obtain⟨m,rfl,r,x,A⟩:=jg f k;cases hk:look c.2 m with
   | some D=>
    rw[D0 hk];refine(Lh i d j c h m D g e hk (by omega)).mono ?_;rintro q E ⟨rfl,l⟩;exact⟨rfl,tS e l⟩
   | none=>
    rw[xR hk r];have q:sz (n+1) a=1+(a.2.2.map λb=>1+sz n b).sum:=by simp only[sz,if_pos k]
    exact Lj ws nm n ih a.2.2 m i d p j c h g e z v u r x A (λb C=>aT n a b s C) y B (by omega) (by omega) hk
  ·have t:=iz f k;rw[tX t];refine(I5 d o.1 o.2 g t).mono ?_;rintro q E ⟨rfl,l⟩;exact⟨rfl,tS e l⟩
theorem KG(w:World)(a:Value):ik w.heap.size (w.heap.size+1) a ([],[]) (λb=>w.heap.size<=b) ((w.alloc (.map #[] 0)).alloc (.cells #[a,ae none 0 0,.map (some w.heap.size)] 269)):=by
 have e:=oR w Tryz.prog 3 (plainElem (H:=Unit) Tryz.prog 3);have es:∀o,(w.alloc o).heap.size=w.heap.size+1:=λo=>by simp
 have c:=aB (w.alloc (.map #[] 0)) (.cells #[a,ae none 0 0,.map (some w.heap.size)] 269);rw[es]at c;exact⟨ae none 0 0,w.heap.size,.map [],c,en _ _ _ _,e.alloc _,J0,by omega,λb d=>by simp[Value.ownBlock]at d,ak _⟩
def kA(R:List Wd×List Wd×cU)(len g:Nat)(tv:Value)(w w':World):Prop:=
 aj w w'/\w'.ownsRow w.heap.size 105 2 tv R.2.1.length (aW R.2.1)/\w'.ownsRow g 105 2 (ae (some ⟨g,0,none⟩) len len) len (aW R.1)/\w.heap.size<=g/\tv.ownBlock≠some g
theorem yD(R:List Wd×List Wd×cU)(c:Value)(d:Option Addr)(L f:Nat)(a:Option Addr)(len pc:Nat)(w:World)(i:c=ae d L f)(b:Hid (am 184 #[.pointer (some ⟨w.heap.size+1,0,none⟩),ae a len pc] ((w.alloc (.map #[] 0)).alloc (.cells #[ae d L f,ae none 0 0,.map (some w.heap.size)] 269)) λe w'=>∃g tv,e=.returned (ae (some ⟨g,0,none⟩) len len)/\w'.cell? ⟨w.heap.size+1,1,none⟩=some tv/\Hid (kA R len g tv w w'))):am 177 #[c,ae a len pc] w λe w'=>∃g tv,e=.returned (.tuple #[tv,ae (some ⟨g,0,none⟩) len len])/\Hid (kA R len g tv w w'):=by
 subst i;have j:= @run_makeMap Tryz.prog;go_enter Tryz.func177,Tryz.ntmps177;go_wp2_with fail;refine b.out.mono ?_;rintro e l ⟨g,tv,rfl,k,h⟩;clear b j;go_wp2_with fail;exact av (v:=.tuple #[tv,ae (some ⟨g,0,none⟩) len len]) (by simp[results,Tryz.results177,go_sem]) rfl ⟨g,tv,rfl,h⟩
theorem A5(ws:List Wd)(nm:List ByteArray)(n:Nat)(vs:List Wd)(p:List (Tm n))(q:Nat)(d:Value)(a:Option Addr)(pc:Nat)(w:World)(k:w.ownsRow q 105 2 d ws.length (aW ws))(G:gt ws nm n vs p)(F:∀y∈p,az ⟨n,y⟩)(H:ws.length<=100000)(B:vs.length<=100000)(I:(p.map λy=>1+sz n y).sum<=90000)(D:(p.flatMap λy=>aw n y).length<=90000)(h:ez w vs a)(E:∀b o,a=some ⟨b,o,none⟩->b<w.heap.size):am 177 #[d,ae a vs.length pc] w λe w'=>∃g tv,e=.returned (.tuple #[tv,ae (some ⟨g,0,none⟩) vs.length vs.length])/\Hid (kA (gE (jv ws n) vs ([],[])) vs.length g tv w w'):=by
 obtain⟨l,m,r⟩:∃l m,d=ae l ws.length m:=by
  rcases k.2 with⟨e,x⟩|⟨g,c,R,e,_⟩
  ·exact⟨none,0,by rw[e,x]⟩
  ·exact⟨_,c,e⟩
 refine yD _ d l ws.length m a vs.length pc w r ?_;have f:aj w ((w.alloc (.map #[] 0)).alloc (.cells #[d,ae none 0 0,.map (some w.heap.size)] 269)):=((ap _ _).alloc (ak _) _).alloc (by simp) _;have z:=KG w d;have S:((w.alloc (.map #[] 0)).alloc (.cells #[d,ae none 0 0,.map (some w.heap.size)] 269)).heap.size=w.heap.size+2:=by simp
 rw[<-r];generalize (w.alloc (.map #[] 0)).alloc (.cells #[d,ae none 0 0,.map (some w.heap.size)] 269)=wA at*;have A:ez wA vs a:=by
  rcases h with h|⟨b,o,e,j,h⟩
  ·exact ah h
  ·exact ai ⟨b,o,e,by omega,λt u s=>⟨(aq f b _ j).trans (h t u s).1,(aq f b _ j).trans (h t u s).2⟩⟩
 refine(sk ws nm n (Lf ws nm n) vs p w.heap.size (w.heap.size+1) q d ([],[]) _ a pc wA z (dJ k f) (λb e C=>by have:=(k.lt b e).2;omega) (by omega) G F H B (by simpa using I) (by simpa using D) A ?_).mono ?_
 ·intro b o e C;have:=E b o e;omega
 ·rintro e w' ⟨g,rfl,v⟩;obtain⟨Q,M,i,X,N,Y,O⟩:=v.out;obtain⟨tv,Z,P,J,K,T,U,V,L,W⟩:=M;refine⟨g,tv,rfl,J.cells.1.2.1,⟨?_,?_,?_,?_,?_⟩,K,O,by omega,λe=>N (L g e)⟩
  ·exact i.os.trans f.os
  ·exact i.tape.trans f.tape
  ·exact i.output.trans f.output
  ·have:=i.size;omega
  ·intro b j;exact(i.block b (by omega) (by omega)).trans (f.block b j)
theorem zQ{base:Nat}{c:cq}{room:Int}{ws:List Wd}{nm:List ByteArray}{M:Nat->Prop}{R:List Wd×List Wd×cU}{len g:Nat}{tv:Value}{w w1 w2:World}(n:dA base c room ws nm M w)(i:aj w w1)(r:kA R len g tv w1 w2)(z:base<=w.heap.size):lD base c room R.2.1 nm M w (w2.setCell ⟨c.b,c.o+1,none⟩ tv):=by
 obtain⟨v,l,A,B,C⟩:=r;have s:=i.size;have j:=i.trans (v.mono s);obtain⟨D,t,u,e,x,f,h,y,p,q⟩:=n.later j;have k:=bk w2 c.b (c.o+1) tv;have m:∀b,tv.ownBlock=some b->w1.heap.size<=b:=λb a=>(l.lt b a).1;refine⟨⟨tv,t,u,e.set1 tv,dO (qO l (by omega)) k (λb a d=>?_),f.kept k (λb a d=>?_) (λb a d=>?_),ah h.1,λb a=>ai (by have:=m b a;omega),λb a=>ah (p b a).1,λb a=>ah (q b a).1⟩,(aX j M).trans k ?_⟩
 ·subst d;have:=m _ a;have:=h.2;omega
 ·subst d;exact mT f.1 e (by decide) a
 ·subst d;exact tn f e a
 ·rintro b _ rfl;exact h.1
theorem xO(R:List Wd×List Wd×cU)(d:cq)(p:Option Addr)(L r:Nat)(a:Option Addr)(len pc:Nat)(w:World)(k:d.b<w.heap.size)(i:w.cell? ⟨d.b,d.o+1,none⟩=some (ae p L r))(j:w.frozen? ⟨d.b,d.o+1,none⟩=false)(l:Hid (am 176 #[.pointer (some ⟨d.b,d.o,none⟩),ae a len pc] w λe w'=>e=.returned (.bool true)/\aj w w'))(m:Hid (∀w1,aj w w1->am 177 #[ae p L r,ae a len pc] w1 λe w'=>∃g tv,e=.returned (.tuple #[tv,ae (some ⟨g,0,none⟩) len len])/\Hid (kA R len g tv w1 w'))):am 165 #[.pointer (some ⟨d.b,d.o,none⟩),ae a len pc] w λe w'=>∃g tv w1 w2,e=.returned (.tuple #[ae (some ⟨g,0,none⟩) len len,ab 0])/\w'=w2.setCell ⟨d.b,d.o+1,none⟩ tv/\Hid (aj w w1/\kA R len g tv w1 w2):=by
 go_enter Tryz.func165,Tryz.ntmps165;go_wp2_with fail;refine l.out.mono ?_;rintro e w1 ⟨rfl,f⟩;have HB:=ao f;replace i:=(aq f d.b (d.o+1) k).trans i;replace j:=(gz f d.b (d.o+1) k).trans j;have n:d.b<w1.heap.size:=aN k f.size;clear f l;go_wp2_with fail;refine(m.out w1 HB.out).mono ?_;rintro e w2 ⟨g,tv,rfl,h⟩;obtain⟨q,s,rfl⟩:∃q s,tv=ae q R.2.1.length s:=by
  rcases h.out.2.1.2 with⟨e,t⟩|⟨g,c,u,e,_⟩
  ·exact⟨none,0,by rw[e,t]⟩
  ·exact⟨_,c,e⟩
 replace i:=(aq h.out.1 d.b (d.o+1) n).trans i;replace j:=(gz h.out.1 d.b (d.o+1) n).trans j;clear m;go_wp2_with fail
 go_ret2
 exact⟨g,_,w1,w2,rfl,rfl,HB.out,h.out⟩
theorem gt.mem{ws:List Wd}{nm:List ByteArray}{n:Nat}{l:List Wd}{p:List (Tm n)}(b:gt ws nm n l p){v:Wd}(e:v∈l):∃y∈p,dB ws nm n y v:=by
 obtain⟨a,c⟩:=cO e;have d:a<p.length:=by rw[<-b.1];exact(aR.1 c).1
 exact⟨p[a],jl _,b.2 a v p[a] c (aH d)⟩
def EL(g c:cU)(a b:Nat):Prop:=∀p,(p<a\/b<=p)->look c p=look g p
theorem F9{d a C:List Wd}{b:Wd}(k:(a++b::C) <+:d):cg d a.length C.length=C:=by
 obtain⟨c,rfl⟩:=k;unfold cg;rw[show a++b::C++c=(a++ [b])++(C++c) by simp];rw[List.drop_left' (by simp),List.take_left' rfl]
theorem BO{w w1:World}{vs:List Wd}{a:Option Addr}(c:ez w vs a)(d:aj w w1):ez w1 vs a:=by
 rcases c with c|⟨b,o,i,e,c⟩
 ·exact ah c
 ·exact ai ⟨b,o,i,aN e d.size,λg h f=>⟨(aq d b _ e).trans (c g h f).1,(aq d b _ e).trans (c g h f).2⟩⟩
def DM(ws:List Wd)(nm:List ByteArray)(n:Nat)(vs:List Wd)(p:List (Tm n)):Prop:=
 gt ws nm n vs p/\(∀a∈p,az ⟨n,a⟩)/\(∀a∈p,aJ n a=true)/\(p.map λa=>1+sz n a).sum<=90000/\(p.flatMap λa=>aw n a).length<=90000/\vs.length<=1000
def jz(ws:List Wd)(n:Nat)(vs:List Wd):List Wd×List Wd×cU:=gE (jv ws n) vs ([],[])
theorem DM.all{ws:List Wd}{nm:List ByteArray}{n:Nat}{vs:List Wd}{p:List (Tm n)}(b:DM ws nm n vs p)(g:ws.length<=1000)(f:nm.length<=50000):vs.all (cG ws nm)=true/\∀v∈vs,dn v.2:=by
 have key:∀v∈vs,cG ws nm v=true/\dn v.2:=λv a=>by
  obtain⟨d,c,e⟩:=b.1.mem a;exact Bt e (b.2.1 d c) (b.2.2.1 d c) (by omega) (by omega)
 exact⟨b9.2 λv a=>(key v a).1,λv a=>(key v a).2⟩
def xu(base:Nat)(a:cq)(room:Int)(R:List Wd×List Wd×cU)(nm:List ByteArray)(M:Nat->Prop)(g:Nat)(w w':World):Prop:=
 dA base a room R.2.1 nm (λb=>(M b\/w.heap.size<=b)/\b≠g) w'/\bP M w w'/\ez w' R.1 (some ⟨g,0,none⟩)/\w.heap.size<=g/\g<w'.heap.size/\∃len,w'.ownsRow g 105 2 (ae (some ⟨g,0,none⟩) len len) len (aW R.1)
theorem xq{w:World}{g base len:Nat}{vs:List Wd}(a:w.ownsRow base 105 2 (ae (some ⟨g,0,none⟩) len len) len (aW vs)):ez w vs (some ⟨g,0,none⟩)/\g<w.heap.size:=by
 refine⟨ai ⟨g,0,rfl,(a.lt g rfl).2,λc d b=>?_⟩,(a.lt g rfl).2⟩;have:=iK a c d b;rw[cT];exact this
theorem Hw{base:Nat}{d:cq}{room:Int}{ws:List Wd}{nm:List ByteArray}{M:Nat->Prop}{R:List Wd×List Wd×cU}{len g:Nat}{tv:Value}{w w1 w2:World}(j:dA base d room ws nm M w)(h:aj w w1)(p:kA R len g tv w1 w2)(t:base<=w.heap.size):xu base d room R nm M g w (w2.setCell ⟨d.b,d.o+1,none⟩ tv):=by
 have u:=zQ j h p t;obtain⟨z,q,i,F,B⟩:=p;have v:=h.size;have s:=h.trans (z.mono v);obtain⟨G,x,y,e,C,f,l,D,m,n⟩:=j.later s;have k:=bk w2 d.b (d.o+1) tv;have r:∀b,tv.ownBlock=some b->w1.heap.size<=b:=λb a=>(q.lt b a).1;have E:d.b<w.heap.size:=l.2;refine⟨⟨tv,x,y,e.set1 tv,dO (qO q (by omega)) k (λb a c=>?_),f.kept k (λb a c=>?_) (λb a c=>?_),⟨ah l.1,by omega⟩,λb a=>⟨ai (by have:=r b a;omega),λc=>B (by rw[a,c])⟩,λb a=>⟨ah (m b a).1,by have:=(m b a).2;omega⟩,λb a=>⟨ah (n b a).1,by have:=(n b a).2;omega⟩⟩,u.2,?_,by omega,?_,?_⟩
 ·subst c;have:=r _ a;omega
 ·subst c;exact mT f.1 e (by decide) a
 ·subst c;exact tn f e a
 ·have A:=dO i k (λb a c=>by
    subst c;simp only[Value.ownBlock]at a;have:=au a
    omega)
  exact(xq A).1
 ·have:=(xq i).2;simpa [World.setCell]using this
 ·exact⟨len,dO i k (λb a c=>by
    subst c;simp only[Value.ownBlock]at a;have:=au a
    omega)⟩
theorem xZ(n:Nat)(p:List (Tm n))(vs:List Wd)(a:Option Addr)(pc base:Nat)(f:cq)(room:Int)(ws:List Wd)(nm:List ByteArray)(M:Nat->Prop)(w:World)(j:dA base f room ws nm M w)(d:DM ws nm n vs p)(r:ez w vs a)(C:∀b o,a=some ⟨b,o,none⟩->b<w.heap.size)(z:base<=w.heap.size)(E:ws.length<=1000)(D:nm.length<=50000):am 165 #[.pointer (some ⟨f.b,f.o,none⟩),ae a vs.length pc] w λe w'=>∃g,e=.returned (.tuple #[ae (some ⟨g,0,none⟩) vs.length vs.length,ab 0])/\Hid (xu base f room (jz ws n vs) nm M g w w'):=by
 obtain⟨y,B⟩:=d.all E D;obtain⟨t,P,Q,m,q,J,K,L,N,O⟩:=id j;obtain⟨⟨F,v,G,H⟩,A⟩:=m.cells;obtain⟨h,i,rfl⟩:∃h i,t=ae h ws.length i:=by
  rcases q.2 with⟨e,x⟩|⟨g,c,I,e,_⟩
  ·exact⟨none,0,by rw[e,x]⟩
  ·exact⟨_,c,e⟩
 refine(xO (jz ws n vs) f h ws.length i a vs.length pc w m.lt v (A _) ?_ ?_).mono ?_
 ·have s:=xC base f room ws nm M vs a vs.length pc w j (by omega) rfl (by have:=d.2.2.2.2.2;omega) r B;rw[y]at s;exact s
 ·intro u k;refine A5 ws nm n vs p base (ae h ws.length i) a pc u (dJ q k) d.1 d.2.1 (by omega) (by have:=d.2.2.2.2.2;omega) d.2.2.2.1 d.2.2.2.2.1 (BO r k) ?_;intro b o e;exact aN (C b o e) k.size
 ·rintro e w' ⟨g,t,u,R,rfl,rfl,l⟩;exact⟨g,rfl,Hw j l.out.1 l.out.2 z⟩
end Go.Proofs.YtckamaoibonjcaaGreat
