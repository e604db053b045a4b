/- What is proved here: plain facts and contracts that the claimed theorem stands on. No condition but those that each names. -/
import Derived.Test.YtckamaoibonjcaaGreatH17
namespace Go.Proofs.YtckamaoibonjcaaGreat
open Go.RowKit
open Go.RowKit Go.Maps
set_option maxHeartbeats 1000000
set_option maxRecDepth 100000
theorem Bm{ws:List Wd}{nm:List ByteArray}{n:Nat}{x:Tm n}{v:Wd}(h:dz ws nm n x v)(r:aA ⟨n,x⟩)(g:aH n x=true)(t:ws.length<=100000)(s:nm.length<=100000):cE ws nm v=true/\dk v.2:=by
 cases n with
 | zero=>exact h.elim
 | succ n=>
 have d:=r (bu n x) (by simp[av,bu]);have i:=jM (bu n x) d;simp only[bu]at i;simp only[aH,aB,oB,gi]at g;obtain⟨m,b,c⟩:=h;by_cases e:x.1.1=2
 ·obtain⟨k,rfl,p⟩:=m e;have j:=(aM.1 p).1;refine⟨?_,?_⟩
  ·simp[cE,ui,j]
  ·unfold dk;show (-9223372036854775808:Int)<=(k:Int)/\(k:Int)<=9223372036854775807;omega
 ·by_cases f:x.1.1=4
  ·obtain⟨l,rfl,q,j,_⟩:=b f;refine⟨?_,?_⟩
   ·simp[cE,fM,q]
   ·unfold dk;show (-9223372036854775808:Int)<=(l:Int)/\(l:Int)<=9223372036854775807;omega
  ·obtain rfl:=c e f;refine⟨?_,(uf _ d).2⟩;have o:x.1.1=1\/x.1.1=3:=by
    rcases i with a|a|a|a|a|a
    ·exact ag a
    ·exact absurd a e
    ·exact ah a
    ·exact absurd a f
    ·exact absurd a g.1.1
    ·exact absurd a.1 g.1.2
   unfold cq at d;simp only[bu]at d;rcases o with a|a
   ·simp[cE,a]at d ⊢;exact d.1.2
   ·simp[cE,a]at d ⊢;exact d.1.2
theorem IC(n:Nat)(x:Tm n)(v:Wd)(base:Nat)(a:ci)(room:Int)(ws:List Wd)(nm:List ByteArray)(M:Nat->Prop)(w:World)(h:dy base a room ws nm M w)(d:dz ws nm n x v)(j:aA ⟨n,x⟩)(m:aH n x=true)(f:ws.length<=100000)(i:nm.length<=100000):ak 68 #[.pointer (some ⟨a.b,a.o,none⟩),G4 v] w λe w'=>∃y:Tm n,e=.returned (.tuple #[df n y,ab 0])/\Hid (ai w w'/\In w'.heap.size w' n y/\bZ (λq=>w.heap.size<=q) n y/\aw n y n x=true):=by
 cases n with
 | zero=>exact d.elim
 | succ n=>
 obtain⟨l,p⟩:=Bm d j m f i;refine MS n x a v.1 v.2 w ?_ ?_
 ·intro g c;have k:=uX base a room ws nm _ v g (h.later c) f p;rw[l]at k;exact k
 ·exact λg c=>JK (n+1) x v base a room ws nm _ g (h.later c) f i d j
abbrev cQ:=List (Nat×Nat)
def look(g:cQ)(p:Nat):Option Nat:=(g.find? λe=>e.1==p).map λe=>e.2
theorem rF(g:cQ)(p q:Nat):look ((p,q)::g) p=some q:=by simp[look]
theorem pG(g:cQ){p r:Nat}(q:Nat)(a:r≠p):look ((p,q)::g) r=look g r:=by
 have:(p==r)=false:=by simp;omega
 simp[look,this]
def gB(f:Wd->List Wd×cQ->Wd×List Wd×cQ):List Wd->List Wd×cQ->List Wd×List Wd×cQ
 | [],S=>([],S)
 | v::l,S=>((f v S).1::(gB f l (f v S).2).1,(gB f l (f v S).2).2)
def jm(ws:List Wd):Nat->Wd->List Wd×cQ->Wd×List Wd×cQ
 | 0,v,S=>(v,S)
 | n+1,v,S=>
  if v.1=4 then
   match look S.2 v.2.toNat with
   | some q=>((4,(q:Int)),S)
   | none=>
    match ws[v.2.toNat]? with
    | some a=>((4,((gB (jm ws n) ((ws.drop (v.2.toNat+1)).take a.2.toNat) S).2.1.length:Int)),(gB (jm ws n) ((ws.drop (v.2.toNat+1)).take a.2.toNat) S).2.1++(0,a.2)::(gB (jm ws n) ((ws.drop (v.2.toNat+1)).take a.2.toNat) S).1,(v.2.toNat,(gB (jm ws n) ((ws.drop (v.2.toNat+1)).take a.2.toNat) S).2.1.length)::(gB (jm ws n) ((ws.drop (v.2.toNat+1)).take a.2.toNat) S).2.2)
    | none=>(v,S)
  else (v,S)
theorem Hy(f:Wd->List Wd×cQ->Wd×List Wd×cQ)(l:List Wd)(v:Wd)(S:List Wd×cQ):gB f (l++ [v]) S=((gB f l S).1++ [(f v (gB f l S).2).1],(f v (gB f l S).2).2):=by
 induction l generalizing S with
 | nil=>simp[gB]
 | cons a l ih=>simp[gB,ih]
theorem px(f:Wd->List Wd×cQ->Wd×List Wd×cQ)(l:List Wd)(S:List Wd×cQ):(gB f l S).1.length=l.length:=by
 induction l generalizing S with
 | nil=>simp[gB]
 | cons a l ih=>simp[gB,ih]
def tG(D:DataW Unit)(g:cQ):Prop:=∀p:Nat,(Maps.has D (.int .i64 p)=true ↔ (look g p).isSome=true)/\∀q:Nat,look g p=some q->D.atKey (.int .i64 p) (.lit (.int .i64 0))=.lit (.int .i64 q)
theorem J4:tG (.map []) []:=λp=>⟨by simp[Maps.has,look],λq a=>by simp[look]at a⟩
theorem Ei(k:Int):WideAt.IsKeyLit (.int .i64 k):=by first|trivial|simp[WideAt.IsKeyLit]|decide
theorem J5{w:World}{j L:Nat}{D:DataW Unit}{g:cQ}(f:w.ownsMap Tryz.prog 3 (plainElem Tryz.prog 3) j L D)(e:tG D g)(p q:Nat):tG (D.put (.int .i64 p) (.lit (.int .i64 q))) ((p,q)::g):=by
 intro c;by_cases b:c=p
 ·subst b;refine⟨?_,λi a=>?_⟩
  ·rw[has_put_same f.isMap (Ei _),rF];simp
  ·rw[rF]at a;rw[atKey_put_same f.isMap (Ei _),au a]
 ·have h:(Lit.int .i64 (c:Int))≠(Lit.int .i64 (p:Int)):=λd=>b (by injection d with _ d;omega);refine⟨?_,λi a=>?_⟩
  ·rw[has_put_other h,pG g q b];exact(e c).1
  ·rw[pG g q b]at a;rw[atKey_put_other h];exact(e c).2 i a
theorem Cw:Keyed Tryz.prog 3:=int_keyed Tryz.underlying3
def CB(a:Nat)(b tv mv:Value)(w:World):Prop:=w.heap[a]?=some (.cells #[b,tv,mv] 269)
theorem CB.lt{a:Nat}{b tv mv:Value}{w:World}(c:CB a b tv mv w):a<w.heap.size:=(aC.1 c).1
theorem CB.cells{a:Nat}{b tv mv:Value}{w:World}(c:CB a b tv mv w):(w.cell? ⟨a,0,none⟩=some b/\w.cell? ⟨a,1,none⟩=some tv/\w.cell? ⟨a,2,none⟩=some mv)/\∀j,w.frozen? ⟨a,j,none⟩=false:=by
 unfold CB at c;refine⟨⟨?_,?_,?_⟩,λj=>?_⟩
 all_goals simp[World.cell?,World.frozen?,c]
theorem CB.set1{a:Nat}{b tv mv:Value}{w:World}(c:CB a b tv mv w)(v:Value):CB a b v mv (w.setCell ⟨a,1,none⟩ v):=by
 unfold CB at*;simp[World.setCell,bG,c]
theorem CB.kept{a:Nat}{b tv mv:Value}{w w':World}(c:CB a b tv mv w)(k:w'.heap[a]?=w.heap[a]?):CB a b tv mv w':=k.trans c
def ie(base e:Nat)(f:Value)(S:List Wd×cQ)(M:Nat->Prop)(w:World):Prop:=
 ∃c a d,CB e f c (.map (some a)) w/\w.ownsRow base 105 2 c S.1.length (aU S.1)/\w.ownsMap Tryz.prog 3 (plainElem Tryz.prog 3) a S.2.length d/\tG d S.2/\M e/\(∀b,c.ownBlock=some b->M b)/\M a
theorem ie.kept{base a:Nat}{g:Value}{S:List Wd×cQ}{M T:Nat->Prop}{w w':World}(q:ie base a g S M w)(k:bO T w w')(d:∀b,M b->b<w.heap.size->¬T b):ie base a g S M w':=by
 obtain⟨u,e,o,c,h,i,r,j,l,m⟩:=q;refine⟨u,e,o,c.kept (k.block a c.lt (d a j c.lt)),dK h k λb f=>d b (l b f) (h.lt b f).2,?_,r,j,l,m⟩;have n:=i.lt;obtain⟨es,p,s,t⟩:=i;exact⟨es,p,(k.block e n (d e m n)).trans s,t⟩
theorem ie.inside{base a:Nat}{d:Value}{S:List Wd×cQ}{M:Nat->Prop}{w:World}(i:ie base a d S M w):ie base a d S (λb=>M b/\b<w.heap.size) w:=by
 obtain⟨o,n,h,e,f,g,j,k,l,m⟩:=i;exact⟨o,n,h,e,f,g,j,⟨k,e.lt⟩,λb c=>⟨l b c,(f.lt b c).2⟩,m,g.lt⟩
theorem ie.later{base c:Nat}{d:Value}{S:List Wd×cQ}{M:Nat->Prop}{w wA:World}(a:ie base c d S M w)(e:Below w.heap.size w wA):ie base c d S (λb=>M b/\b<w.heap.size) wA:=
 a.inside.kept (aV e (λ_=>False)) λ_ _ _ a=>a
theorem ie.mono{base a:Nat}{c:Value}{S:List Wd×cQ}{M T:Nat->Prop}{w:World}(f:ie base a c S M w)(k:∀b,M b->T b):ie base a c S T w:=by
 obtain⟨p,o,d,g,h,i,j,l,m,n⟩:=f;exact⟨p,o,d,g,h,i,j,k _ l,λb e=>k b (m b e),k _ n⟩
theorem I8(b:Nat)(k a:Int)(w:World)(c:¬k=4):Calls Tryz.prog 187 #[.pointer (some ⟨b,0,none⟩),.agg #[.int .i64 k,.int .i64 a]] w λe w'=>e=.returned (.agg #[.int .i64 k,.int .i64 a])/\Below w.heap.size w w':=by
 have d:(k !=4)=true:=by simpa using c
 go_enter Tryz.func187,Tryz.ntmps187;go_wp2_with fail;exact ar (v:=.agg #[.int .i64 k,.int .i64 a]) (by simp[results,Tryz.results187,go_sem]) rfl ⟨rfl,by go_grown⟩
theorem LR{D:DataW Unit}{g:cQ}(b:tG D g){p q:Nat}{c:Int}(d:look g p=some q)(a:D.atKey (.int .i64 p) (.lit (.int .i64 0))=.lit (.int .i64 c)):c=q:=by
 have:=(b p).2 q d;rw[this]at a;simp at a;exact a.symm
theorem Li(base g:Nat)(x:Value)(S:List Wd×cQ)(M:Nat->Prop)(p q:Nat)(w:World)(a:Hid (ie base g x S M w))(r:Hid (look S.2 p=some q))(P:p<=100000):Calls Tryz.prog 187 #[.pointer (some ⟨g,0,none⟩),.agg #[.int .i64 4,.int .i64 p]] w λe w'=>e=.returned (.agg #[.int .i64 4,.int .i64 q])/\Below w.heap.size w w':=by
 go_enter Tryz.func187,Tryz.ntmps187;go_wp2_with fail;generalize h:(w.alloc (Obj.cells #[Value.int IntKind.i64 4,Value.int IntKind.i64 p] 105)).alloc (Obj.cells #[.int .i64 0,.int .i64 0] 105)=wA;have j:Hid (Below w.heap.size w wA.drew/\wA.drew.heap.size=w.heap.size+2):=by
  subst h;exact⟨(((am _ _).alloc (aj _) _).alloc (by simp) _).drew,by simp[World.drew]⟩
 have K:wA.cell? ⟨w.heap.size,1,none⟩=some (.int .i64 p):=by subst h;simp[go_sem]
 have l:Hid (zg (w.heap.size+1) wA.drew):=by
  subst h;have:=az (w.alloc (Obj.cells #[Value.int IntKind.i64 4,Value.int IntKind.i64 p] 105)) (Obj.cells #[.int .i64 0,.int .i64 0] 105);have es:∀o,(w.alloc o).heap.size=w.heap.size+1:=λo=>by simp
  rw[es]at this;exact this
 obtain⟨d,J,D⟩:∃d,wA.cell? ⟨g,2,none⟩=some (.map (some d))/\(Instr.lookup 267 (.map (some d)) (.int .i64 p) true).run Tryz.prog wA.drew=.ok (.tuple #[.int .i64 q,.bool true]) wA.drew:=by
  obtain⟨Q,d,t,y,O,z,m,_⟩:=a.out.later j.out.1;obtain⟨v,ps,s,E⟩:=z.look_ok Cw Tryz.underlying267 (qY _) (plainElem_int Tryz.underlying3 (ib (by omega))) (keyOf_int_mk Tryz.underlying3 (ib (n:=(p:Int)) (by omega)));obtain⟨c,rfl,B,_⟩:=plainElem_int_inv Tryz.underlying3 E;have e:=LR m r.out (congrArg Prod.fst B);have C:Maps.has t (.int .i64 p)=true:=(m p).1.2 (by rw[r.out];rfl);rw[C,e]at s;exact⟨d,y.cells.1.2.2,s⟩
 clear h a;go_region_held3 (λw'=>w'.cell? ⟨w.heap.size,1,none⟩=some (.int .i64 p)/\w'.cell? ⟨g,2,none⟩=some (.map (some d))) (go_keep) (fail);obtain⟨⟨H,I⟩,L,N⟩:=l.out.facts;have u:Hid (∀i k,Below w.heap.size w ((wA.drew.setCell ⟨w.heap.size+1,0,none⟩ i).setCell ⟨w.heap.size+1,1,none⟩ k)):=by
  intro i k;have F:=bi wA.drew (w.heap.size+1) 0 i;have G:=bi (wA.drew.setCell ⟨w.heap.size+1,0,none⟩ i) (w.heap.size+1) 1 k;have f:=(aV j.out.1 (λb=>b=w.heap.size+1)).trans (F.trans G (λb _ a=>a)) (λb _ a=>a);exact⟨f.os,f.tape,f.output,f.size,λb A=>f.block b A (by omega)⟩
 clear D l j;generalize wA.drew=R at*;go_wp2_with fail;exact ar (v:=.agg #[.int .i64 4,.int .i64 q]) (by simp[results,Tryz.results187,go_sem,H,I]) rfl ⟨rfl,u.out _ _⟩
def vL(base a:Nat)(c:Value)(S:List Wd×cQ)(M:Nat->Prop)(w w':World):Prop:=ie base a c S (λb=>M b\/w.heap.size<=b) w'/\bO M w w'
def xo(f:Wd->List Wd×cQ->Wd×List Wd×cQ)(vs:List Wd)(len base c:Nat)(d:Value)(S:List Wd×cQ)(M:Nat->Prop)(g:Nat)(w a:World)(k:Nat)(wr:World):Prop:=
 wr.ownsRow g 105 2 (.slice (some ⟨g,0,none⟩) len len) len (aU ((gB f (vs.take k) S).1++List.replicate (len-k) (0,0)))/\
 ie base c d (gB f (vs.take k) S).2 (λb=>(M b/\b<w.heap.size)\/a.heap.size<=b) wr/\
 bO (λb=>(M b/\b<w.heap.size)\/b=g) a wr
theorem Hf{f:Wd->List Wd×cQ->Wd×List Wd×cQ}{vs:List Wd}{len base g:Nat}{h:Value}{S:List Wd×cQ}{M:Nat->Prop}{w w0:World}(d:ie base g h S M w)(e:w0.ownsRow w.heap.size 105 2 (.slice (some ⟨w.heap.size,0,none⟩) len len) len (madeCells (Value.agg #[ab 0,ab 0]).cells (len*2)).toList)(a:w.grownBy w0 none):xo f vs len base g h S M w.heap.size w w0 0 w0/\ai w w0/\w.heap.size<w0.heap.size:=by
 have c:ai w w0:=⟨a.os,a.tape,a.output,a.size,λb c=>a.block b c (by simp)⟩;refine⟨⟨?_,?_,bO.refl _ _⟩,c,(e.lt _ rfl).2⟩
 ·simp only[List.take_zero,gB,mi,Nat.sub_zero];have i:=uA len;have j:(Value.agg #[ab 0,ab 0]).cells= #[ab 0,ab 0]:=rfl;rw[j,i]at e;exact e
 ·simp only[List.take_zero,gB];exact(d.later c).mono λb d=>ag d
theorem xo.step{f:Wd->List Wd×cQ->Wd×List Wd×cQ}{vs:List Wd}{len base i:Nat}{l:Value}{S:List Wd×cQ}{M:Nat->Prop}{g:Nat}{w d:World}{k:Nat}{wr w1 w2:World}(H:xo f vs len base i l S M g w d k wr)(G:w.heap.size<=g)(I:g<d.heap.size)(K:k<len)(L:vs.length=len){v:Wd}(A:vs[k]?=some v)(m:ai wr w1)(z:vL base i l (f v (gB f (vs.take k) S).2).2 (λb=>((M b/\b<w.heap.size)\/d.heap.size<=b)/\b<wr.heap.size) w1 w2):xo f vs len base i l S M g w d (k+1) ((w2.setCell ⟨g,k*2,none⟩ (ab (f v (gB f (vs.take k) S).2).1.1)).setCell ⟨g,k*2+1,none⟩ (ab (f v (gB f (vs.take k) S).2).1.2))/\ (w2.cell? ⟨g,k*2,none⟩=some (ab 0)/\w2.cell? ⟨g,k*2+1,none⟩=some (ab 0))/\w2.frozen? ⟨g,k*2,none⟩=false/\w2.frozen? ⟨g,k*2+1,none⟩=false:=by
 obtain⟨o,E,p⟩:=H;obtain⟨u,q⟩:=z;have J:g<wr.heap.size:=(o.lt g rfl).2;have N:=m.size;have O:=p.size;have r:gB f (vs.take (k+1)) S=((gB f (vs.take k) S).1++ [(f v (gB f (vs.take k) S).2).1],(f v (gB f (vs.take k) S).2).2):=by
  rw[dx,A];exact Hy _ _ _ _
 have s:(gB f (vs.take k) S).1.length=k:=by rw[px,dw];omega
 have h:w2.ownsRow g 105 2 (.slice (some ⟨g,0,none⟩) len len) len (aU ((gB f (vs.take k) S).1++List.replicate (len-k) (0,0))):=by
  refine dK (dG o m) q λb j=>?_;simp only[Value.ownBlock]at j;obtain rfl:=au j;omega
 generalize gB f (vs.take k) S=e at*;generalize f v e.2=c at*;have B:(e.1++List.replicate (len-k) (0,0))[k]?=some ((0,0):Wd):=by
  rw[dN (by omega),s,gI,List.getElem?_replicate];simp;omega
 have C:=bi w2 g (k*2) (ab c.1.1);have D:=bi (w2.setCell ⟨g,k*2,none⟩ (ab c.1.1)) g (k*2+1) (ab c.1.2);have t:=C.trans D (λb _ a=>a);refine⟨⟨?_,?_,?_⟩,iG h k (0,0) B,oo h _,oo h _⟩
 ·rw[r];have n:=iR (iR h (k*2) (ab c.1.1)) (k*2+1) (ab c.1.2);rw[pW _ k c.1 (by simp;omega)]at n;have es:(e.1++List.replicate (len-k) ((0,0):Wd)).set k c.1=(e.1++ [c.1])++List.replicate (len-(k+1)) (0,0):=by
   rw[hU _ _ (by omega)];have:len-k=(len-(k+1))+1:=by omega
   rw[this,List.replicate_succ];simp[s]
  rw[es]at n;exact n
 ·rw[r];refine(u.kept t ?_).mono ?_
  ·rintro b (⟨a,_⟩|a) _ j<;>omega
  ·rintro b (⟨a,_⟩|a)
   ·exact a
   ·exact ah (by omega)
 ·have x:bO (λb=>(M b/\b<w.heap.size)\/b=g) d w1:=p.trans (aV m (λ_=>False)) (λ_ _ a=>a.elim)
  have y:bO (λb=>(M b/\b<w.heap.size)\/b=g) d w2:=x.trans q (λb F a=>by
   rcases a.1 with a|a
   ·exact ag a
   ·omega)
  exact y.trans t (λb _ a=>ah a)
def BR(f:Wd->List Wd×cQ->Wd×List Wd×cQ)(vs:List Wd)(base c:Nat)(d:Value)(S:List Wd×cQ)(M:Nat->Prop)(g:Nat)(w w':World):Prop:=
 ∃a,ie base c d (gB f vs S).2 a w'/\bO M w w'/\(∀b,a b->M b\/w.heap.size<=b)/\¬a g/\w.heap.size<=g/\w'.ownsRow g 105 2 (.slice (some ⟨g,0,none⟩) vs.length vs.length) vs.length (aU (gB f vs S).1)
theorem xo.done{f:Wd->List Wd×cQ->Wd×List Wd×cQ}{vs:List Wd}{len base h:Nat}{i:Value}{S:List Wd×cQ}{M:Nat->Prop}{g:Nat}{w d wr:World}(H:xo f vs len base h i S M g w d len wr)(m:vs.length=len)(l:w.heap.size<=g)(o:g<d.heap.size)(j:ai w d):BR f vs base h i S M g w wr:=by
 obtain⟨c,e,k⟩:=H;rw[bw (by omega)]at c e;rw[gI,mj,ed]at c;subst m;refine⟨_,e,(aV j M).trans k ?_,?_,?_,l,c⟩
 ·rintro b n (a|a)
  ·exact a.1
  ·omega
 ·rintro b (a|a)
  ·exact ag a.1
  ·exact ah (by have:=j.size;omega)
 ·rintro (a|a)<;>omega
theorem xM(f:Wd->List Wd×cQ->Wd×List Wd×cQ)(vs:List Wd)(base d:Nat)(i:Value)(S:List Wd×cQ)(M:Nat->Prop)(a:Option Addr)(len pc:Nat)(w:World)(s:Hid (vs.length=len))(aa:len<=100000)(c:Hid (ie base d i S M w))(D:Hid (eA w vs a))(H:Hid (∀b o,a=some ⟨b,o,none⟩->¬M b))(ih:Hid (∀(k:Nat)(v:Wd),vs[k]?=some v->∀(M':Nat->Prop)(w1:World),ie base d i (gB f (vs.take k) S).2 M' w1->bO M w w1->(∀b,M' b->M b\/w.heap.size<=b)-> ak 187 #[.pointer (some ⟨d,0,none⟩),.agg #[ab v.1,ab v.2]] w1 λe w2=>e=.returned (.agg #[ab (f v (gB f (vs.take k) S).2).1.1,ab (f v (gB f (vs.take k) S).2).1.2])/\Hid (vL base d i (f v (gB f (vs.take k) S).2).2 M' w1 w2))):ak 184 #[.pointer (some ⟨d,0,none⟩),.slice a len pc] w λe w'=>∃g,e=.returned (.slice (some ⟨g,0,none⟩) len len)/\Hid (BR f vs base d i S M g w w'):=by
 obtain⟨Q,E,J,K,L⟩:=bQ kA;go_enter Tryz.func184,Tryz.ntmps184;go_wp2_with (at_make;refine km _ rfl _ _ 96 rfl w.heap.size 105 Q _ 2 Tryz.underlying96 E J K _ _ _ _ len rfl rfl rfl rfl (by rw[L];omega) (by unfold maxLen;omega) (aj _) ?_;intro p I C;have m:=ao (Hf (f:=f) (vs:=vs) c.out I C);clear I C);clear E J K L;have y:Hid (xo f vs len base d i S M w.heap.size w p 0 p):=m.out.1;have B:w.heap.size<p.heap.size:=m.out.2.2;go_loopw [13] (λj wr=>∃k:Nat,k<=len/\j=ab k/\Hid (xo f vs len base d i S M w.heap.size w p k wr)) (λj _=>len-(intOf j).toNat)
 case atStart=>exact⟨0,by omega,rfl,y.out⟩
 case round=>
  clear y;obtain⟨k,X,rfl,h⟩:=hrel;by_cases G:k<len
  ·obtain⟨v,l⟩:∃v,vs[k]?=some v:=⟨vs[k]'(by rw[s.out];exact G),aE _⟩;obtain⟨b,o,rfl,A,N⟩:∃b o,a=some ⟨b,o,none⟩/\b<w.heap.size/\∀(j:Nat)(v:Wd),vs[j]?=some v->w.cell? ⟨b,o+j*2,none⟩=some (ab v.1)/\w.cell? ⟨b,o+j*2+1,none⟩=some (ab v.2):=by
    rcases D.out with e|e
    ·rw[e]at l;simp at l
    ·exact e
   obtain⟨t,u⟩:=N k v l;have r:wr.heap[b]?=w.heap[b]? :=(h.out.2.2.block b (by omega) (by rintro (c|c);exact H.out b o rfl c.1;omega)).trans (m.out.2.1.block b A);replace t:=(bm r (o+k*2)).trans t;replace u:=(bm r (o+k*2+1)).trans u;have W:w.heap.size<wr.heap.size:=(h.out.1.lt _ rfl).2;have ad:=h.out.2.2.size;have F:bO M w wr:=(aV m.out.2.1 M).trans h.out.2.2 (by rintro b A (c|c);exact c.1;omega)
   obtain⟨n,x⟩:∃n:Wd,Hid (∀w1,ai wr w1->ak 187 #[.pointer (some ⟨d,0,none⟩),.agg #[ab v.1,ab v.2]] w1 λe w2=>e=.returned (.agg #[ab n.1,ab n.2])/\
       Hid (xo f vs len base d i S M w.heap.size w p (k+1) ((w2.setCell ⟨w.heap.size,k*2,none⟩ (ab n.1)).setCell ⟨w.heap.size,k*2+1,none⟩ (ab n.2))/\
        (w2.cell? ⟨w.heap.size,k*2,none⟩=some (ab 0)/\w2.cell? ⟨w.heap.size,k*2+1,none⟩=some (ab 0))/\w2.frozen? ⟨w.heap.size,k*2,none⟩=false/\w2.frozen? ⟨w.heap.size,k*2+1,none⟩=false)):=by
    refine⟨(f v (gB f (vs.take k) S).2).1,λw1 q=>?_⟩;refine(ih.out k v l _ w1 (h.out.2.1.later q) (F.trans (aV q M) (λ_ _ c=>c)) ?_).mono ?_
    ·rintro b ⟨c|c,_⟩
     ·exact ag c.1
     ·exact ah (by omega)
    ·rintro e w2 ⟨rfl,P⟩;exact⟨rfl,h.out.step (aj _) B G s.out l q P.out⟩
   clear ih h D N l H r F;have Y:(0:Int)<=(k:Int):=by omega
   have Z:(k:Int)<(len:Int):=by omega
   have V:b<wr.heap.size:=by omega
   go_wp2_with fail;refine(x.out _ ((am _ _).alloc (aj _) _)).mono ?_;rintro e w2 ⟨rfl,z⟩;obtain⟨⟨R,d1⟩,T,U⟩:=z.out.2;clear x t u;go_wp2_with fail;go_roundw
   case rel=>exact⟨k+1,by omega,by go_num,z.out.1⟩
   case measure=>simp[intOf];omega
  ·obtain rfl:k=len:=by omega
   have O:=ao (h.out.done s.out (aj _) B m.out.2.1);clear h ih;go_wp2_with fail
   go_ret
   exact⟨_,rfl,O.out⟩
theorem Jo{w:World}{base:Nat}{e:TypeId}{s n:Nat}{v:Value}{xs:List Value}{b:Nat}{c tv mv:Value}(f:w.ownsRow base e s v n xs)(h:CB b c tv mv w)(j:e≠269):v.ownBlock≠some b:=λe=>by
 rcases f.2 with⟨rfl,_⟩|⟨d,cap,k,rfl,_,i,_⟩
 ·simp[Value.ownBlock]at e
 ·simp[Value.ownBlock]at e;subst e;have a:w.heap[d]?=_:=h;rw[i]at a;injection a with a;injection a with a g;exact j g
theorem A4{w:World}{base:Nat}{e:TypeId}{s n L c:Nat}{v:Value}{xs:List Value}{D:DataW Unit}(d:w.ownsRow base e s v n xs)(f:w.ownsMap Tryz.prog 3 (plainElem Tryz.prog 3) c L D):v.ownBlock≠some c:=λa=>by
 rcases d.2 with⟨rfl,_⟩|⟨g,cap,j,rfl,_,h,_⟩
 ·simp[Value.ownBlock]at a
 ·simp only[Value.ownBlock]at a;obtain rfl:=au a;obtain⟨es,i,b,_⟩:=f;rw[h]at b;cases b
theorem uD{w:World}{L a b:Nat}{D:DataW Unit}{d tv mv:Value}(f:w.ownsMap Tryz.prog 3 (plainElem Tryz.prog 3) a L D)(e:CB b d tv mv w):a≠b:=by
 rintro rfl;obtain⟨es,h,g,_⟩:=f;have c:w.heap[a]?=_:=e;rw[g]at c;cases c
theorem Oq(base d:Nat)(n:Value)(S:List Wd×cQ)(M:Nat->Prop)(ps:List Wd)(m pc:Nat)(pa:Option Addr)(w:World)(z:ie base d n S M w)(E:base<=w.heap.size)(C:S.1.length<=100000)(I:ps.length=m)(D:m<=1000)(u:∀w1,bO M w w1->eQ w1 ps pa):ak 130 #[.pointer (some ⟨d,1,none⟩),.slice pa m pc] w λe w'=>e=.returned (.agg #[ab 4,ab S.1.length])/\Hid (vL base d n (S.1++(0,(m:Int))::ps,S.2) M w w'):=by
 obtain⟨q,p,s,a,f,g,A,h,i,B⟩:=z;obtain⟨⟨R,v,T⟩,F⟩:=a.cells;obtain⟨j,l,K⟩:∃j l,q=.slice j S.1.length l:=by
  rcases f.2 with⟨e,y⟩|⟨V,c,U,e,_⟩
  ·exact⟨none,0,by rw[e,y]⟩
  ·exact⟨_,c,e⟩
 subst I;refine(zj base d 1 q j l S.1.length S.1 ps ps.length pc pa w K rfl rfl C D E v (F 1) a.lt (Jo f a (by decide)) f ?_).mono ?_
 ·intro w1 k;refine u w1 (k.mono ?_);rintro b (rfl|e)
  ·exact h
  ·exact i b e
 ·rintro e w' ⟨rfl,r,t⟩;obtain⟨O,P,o,Q⟩:=t.out;refine⟨rfl,⟨r,p,s,(a.set1 r).kept P,?_,?_,A,ag h,?_,ag B⟩,o.mono ?_⟩
  ·have e:(S.1++(0,(ps.length:Int))::ps).length=S.1.length+1+ps.length:=by simp;omega
   rw[e];exact O
  ·have H:=g.lt;have L:=uD g a;have N:=A4 f g;obtain⟨es,x,G,J⟩:=g;refine⟨es,x,(o.block p H ?_).trans G,J⟩;rintro (e|e)
   ·exact L e
   ·exact N e
  ·intro b e;rcases Q b e with e|e
   ·exact ag (i b e)
   ·exact ah e
  ·rintro b (rfl|e)
   ·exact h
   ·exact i b e
theorem Lj{base e:Nat}{h:Value}{S:List Wd×cQ}{M:Nat->Prop}{w:World}(m:ie base e h S M w)(p q:Nat)(A:p<=100000)(B:q<=100000)(z:S.2.length<=100000):∃a,w.cell? ⟨e,2,none⟩=some (.map (some a))/\∃w4,(Instr.mapUpdate 267 (.map (some a)) (.int .i64 p) (.int .i64 q)).run Tryz.prog w=.ok () w4/\ie base e h (S.1,(p,q)::S.2) M w4/\bO (λb=>b=a) w w4/\M a/\a<w.heap.size/\w4.cell? ⟨e,2,none⟩=some (.map (some a)):=by
 obtain⟨x,a,y,d,i,f,o,r,s,j⟩:=m;obtain⟨w4,v,u,t⟩:=f.update Cw Tryz.underlying267 (by unfold maxLen;omega) (keyOf_int_mk Tryz.underlying3 (ib (n:=(p:Int)) (by omega))) (plainElem_int Tryz.underlying3 (ib (n:=(q:Int)) (by omega)));have k:=Cz t;have g:bO (λb=>b=a) w w4:=k.mono λb c=>(au c).symm;refine⟨a,d.cells.1.2.2,w4,v,⟨x,a,_,d.kept (g.block e d.lt (λc=>uD f d c.symm)),dK i g ?_,u,J5 f o p q,r,s,j⟩,g,j,f.lt,(d.kept (g.block e d.lt (λc=>uD f d c.symm))).cells.1.2.2⟩;intro b c l;subst l;exact A4 i f c
theorem Cf(w:World)(a b:Int):(Instr.field 105 (.agg #[.int .i64 a,.int .i64 b]) 1).run Tryz.prog w=.ok (.int .i64 b) w:=by kernel_rfl
theorem Lh(base a:Nat)(H:Value)(S:List Wd×cQ)(M:Nat->Prop)(p q f L h n:Nat)(w:World)(u:World->Prop)(I:Hid (ie base a H S M w))(U:H=.slice (some ⟨f,0,none⟩) L h)(W:Hid (look S.2 p=none))(ay:p<=100000)(z:Hid (∀b,Below w.heap.size w b->w.heap.size+2<=b.heap.size->Calls Tryz.prog 135 #[.slice (some ⟨f,0,none⟩) L h,.int .i64 p] b λe w'=>w'=b/\∃o pc,e=.returned (.slice (some ⟨f,o,none⟩) n pc)/\ Hid (Calls Tryz.prog 184 #[.pointer (some ⟨a,0,none⟩),.slice (some ⟨f,o,none⟩) n pc] b λe w2=>∃g,e=.returned (.slice (some ⟨g,0,none⟩) n n)/\ Hid ((∀j,w2.cell? ⟨w.heap.size,j,none⟩=b.cell? ⟨w.heap.size,j,none⟩)/\w2.cell? ⟨a,0,none⟩=some (.slice (some ⟨f,0,none⟩) L h)/\ Calls Tryz.prog 130 #[.pointer (some ⟨a,1,none⟩),.slice (some ⟨g,0,none⟩) n n] w2 λe k=>e=.returned (.agg #[.int .i64 4,.int .i64 q])/\ Hid ((∀j,k.cell? ⟨w.heap.size,j,none⟩=b.cell? ⟨w.heap.size,j,none⟩)/\k.cell? ⟨a,0,none⟩=some (.slice (some ⟨f,0,none⟩) L h)/\ ∃d w4,k.cell? ⟨a,2,none⟩=some (.map (some d))/\(Instr.mapUpdate 267 (.map (some d)) (.int .i64 p) (.int .i64 q)).run Tryz.prog k.drew=.ok () w4/\(∀j,w4.cell? ⟨w.heap.size,j,none⟩=b.cell? ⟨w.heap.size,j,none⟩)/\w4.cell? ⟨a,2,none⟩=some (.map (some d))/\ (zg (w.heap.size+1) b->zg (w.heap.size+1) w4)/\∀v0 v1,u ((w4.setCell ⟨w.heap.size+1,0,none⟩ v0).setCell ⟨w.heap.size+1,1,none⟩ v1)))))):Calls Tryz.prog 187 #[.pointer (some ⟨a,0,none⟩),.agg #[.int .i64 4,.int .i64 p]] w λe w'=>e=.returned (.agg #[.int .i64 4,.int .i64 q])/\u w':=by
 subst U;go_enter Tryz.func187,Tryz.ntmps187;go_wp2_with fail;generalize t:(w.alloc (Obj.cells #[Value.int IntKind.i64 4,Value.int IntKind.i64 p] 105)).alloc (Obj.cells #[.int .i64 0,.int .i64 0] 105)=wA;have l:Hid (Below w.heap.size w wA.drew/\wA.drew.heap.size=w.heap.size+2):=by
  subst t;exact⟨(((am _ _).alloc (aj _) _).alloc (by simp) _).drew,by simp[World.drew]⟩
 have G:wA.cell? ⟨w.heap.size,1,none⟩=some (.int .i64 p):=by subst t;simp[go_sem]
 have C:Hid (zg (w.heap.size+1) wA.drew):=by
  subst t;have:=az (w.alloc (Obj.cells #[Value.int IntKind.i64 4,Value.int IntKind.i64 p] 105)) (Obj.cells #[.int .i64 0,.int .i64 0] 105);have es:∀o,(w.alloc o).heap.size=w.heap.size+1:=λo=>by simp
  rw[es]at this;exact this
 obtain⟨d,F,E,P,X⟩:∃d,∃F:Int,wA.cell? ⟨a,0,none⟩=some (.slice (some ⟨f,0,none⟩) L h)/\wA.cell? ⟨a,2,none⟩=some (.map (some d))/\(Instr.lookup 267 (.map (some d)) (.int .i64 p) true).run Tryz.prog wA.drew=.ok (.tuple #[.int .i64 F,.bool false]) wA.drew:=by
  obtain⟨aA,d,x,J,aw,Q,R,_⟩:=I.out.later l.out.1;obtain⟨v,ps,K,Z⟩:=Q.look_ok Cw Tryz.underlying267 (qY _) (plainElem_int Tryz.underlying3 (ib (by omega))) (keyOf_int_mk Tryz.underlying3 (ib (n:=(p:Int)) (by omega)));obtain⟨c,rfl,ax,_⟩:=plainElem_int_inv Tryz.underlying3 Z;have V:Maps.has x (.int .i64 p)=false:=by
   cases hx:Maps.has x (.int .i64 p)
   ·rfl
   ·have:=(R p).1.1 hx;rw[W.out]at this;simp at this
  rw[V]at K;exact⟨d,c,J.cells.1.1,J.cells.1.2.2,K⟩
 clear t I;go_region_held3 (λw'=>w'.cell? ⟨w.heap.size,1,none⟩=some (.int .i64 p)/\w'.cell? ⟨a,2,none⟩=some (.map (some d))) (go_keep) (fail);have s:wA.drew.cell? ⟨w.heap.size,1,none⟩=some (.int .i64 p):=G;have O:wA.drew.cell? ⟨a,0,none⟩=some (.slice (some ⟨f,0,none⟩) L h):=E;clear X G E P;generalize wA.drew=b at*;have B:=ao (z.out b.drew l.out.1.drew (by have:=l.out.2;show w.heap.size+2<=b.heap.size;omega));clear z;have T:=Cf;go_wp2_with fail
 go_region_held3 (λw'=>w'.cell? ⟨w.heap.size,1,none⟩=some (.int .i64 p)/\w'.cell? ⟨a,0,none⟩=some (.slice (some ⟨f,0,none⟩) L h)) (go_keep) ((first
  | (go_at_call 135;refine B.out.mono ?_;rintro e w2 ⟨rfl,o,pc,rfl,y⟩;clear B)
  | (go_at_call 184;refine y.out.mono ?_;rintro e w2 ⟨g,rfl,m⟩;have al:=(m.out.1 1).trans s;have an:=m.out.2.1;clear y)
  | (go_at_call 130;refine m.out.2.2.mono ?_;rintro e k ⟨rfl,r⟩;have y1:=(r.out.1 1).trans s;have y2:=r.out.2.1;clear m)))
 obtain⟨i,w4,ak,Y,D,aq,A,N⟩:∃i w4,k.cell? ⟨a,2,none⟩=some (.map (some i))/\(Instr.mapUpdate 267 (.map (some i)) (.int .i64 p) (.int .i64 q)).run Tryz.prog k.drew=.ok () w4/\Hid (∀j,w4.cell? ⟨w.heap.size,j,none⟩=b.drew.cell? ⟨w.heap.size,j,none⟩)/\w4.cell? ⟨a,2,none⟩=some (.map (some i))/\Hid (zg (w.heap.size+1) w4)/\Hid (∀v0 v1,u ((w4.setCell ⟨w.heap.size+1,0,none⟩ v0).setCell ⟨w.heap.size+1,1,none⟩ v1)):=by
  obtain⟨i,w4,aa,ab,ad,ae,af,ag⟩:=r.out.2.2;exact⟨i,w4,aa,ab,ad,ae,af C.out,ag⟩
 have ap:=(D.out 1).trans s;obtain⟨⟨ah,ai⟩,au,av⟩:=A.out.facts;clear r D A C l al an y2 O s T;go_wp2_with fail;go_region_held3 (λw'=>w'.cell? ⟨w.heap.size,1,none⟩=some (.int .i64 p)/\w'.cell? ⟨a,2,none⟩=some (.map (some i))) (go_keep) (fail);clear Y ak y1 ap aq;go_wp2_with fail;exact ar (v:=.agg #[.int .i64 4,.int .i64 q]) (by simp[results,Tryz.results187,go_sem,ah,ai]) rfl ⟨rfl,N.out _ _⟩
def cg(ws:List Wd)(p n:Nat):List Wd:=(ws.drop (p+1)).take n
theorem CV{ws:List Wd}{p n i:Nat}(a:i<n):(cg ws p n)[i]?=ws[p+1+i]? :=by
 unfold cg;rw[rW a,jX]
theorem kG{ws:List Wd}{p n:Nat}(a:p+1+n<=ws.length):(cg ws p n).length=n:=by
 unfold cg;rw[dw,eK];omega
def gn(ws:List Wd)(nm:List ByteArray)(n:Nat)(l:List Wd)(p:List (Tm n)):Prop:=l.length=p.length/\∀(i:Nat)(v:Wd)(y:Tm n),l[i]?=some v->p[i]?=some y->dz ws nm n y v
theorem tY{ws:List Wd}{n:Nat}{v:Wd}{S:List Wd×cQ}(a:v.1≠4):jm ws n v S=(v,S):=by
 cases n with
 | zero=>rfl
 | succ n=>simp[jm,a]
theorem DU{ws:List Wd}{n p q:Nat}{S:List Wd×cQ}(a:look S.2 p=some q):jm ws (n+1) (4,(p:Int)) S=((4,(q:Int)),S):=by
 simp[jm,a]
theorem xN{ws:List Wd}{n p m:Nat}{S:List Wd×cQ}(a:look S.2 p=none)(b:ws[p]?=some (0,(m:Int))):jm ws (n+1) (4,(p:Int)) S= ((4,((gB (jm ws n) (cg ws p m) S).2.1.length:Int)),(gB (jm ws n) (cg ws p m) S).2.1++(0,(m:Int))::(gB (jm ws n) (cg ws p m) S).1,(p,(gB (jm ws n) (cg ws p m) S).2.1.length)::(gB (jm ws n) (cg ws p m) S).2.2):=by
 simp[jm,a,b,cg]
theorem nY{ws:List Wd}{nm:List ByteArray}{n:Nat}(ih:∀(x:Tm n)(v:Wd)(S:List Wd×cQ),dz ws nm n x v->((jm ws n v S).2.1.length:Int)<=S.1.length+sz n x/\(jm ws n v S).2.2.length<=S.2.length+(av n x).length):(l:List Wd)->(p:List (Tm n))->(S:List Wd×cQ)->gn ws nm n l p->((gB (jm ws n) l S).2.1.length:Int)+p.length<=S.1.length+(p.map λy=>1+sz n y).sum/\(gB (jm ws n) l S).2.2.length<=S.2.length+(p.flatMap λy=>av n y).length
 | [],[],S,_=>by simp[gB]
 | [],_::_,_,h=>by have:=h.1;simp at this
 | _::_,[],_,h=>by have:=h.1;simp at this
 | v::l,y::p,S,h=>by
  obtain⟨e,f⟩:=ih y v S (h.2 0 v y rfl rfl);obtain⟨g,j⟩:=nY ih l p (jm ws n v S).2 ⟨by have:=h.1;simpa using this,λi c d a b=>h.2 (i+1) c d (by simpa using a) (by simpa using b)⟩;simp only[gB,aI,bC,bv,bf,aZ];exact⟨by omega,by omega⟩
theorem jb{ws:List Wd}{nm:List ByteArray}{n:Nat}{x:Tm (n+1)}{v:Wd}(i:dz ws nm (n+1) x v)(j:x.1.1=4):∃p:Nat,v=(4,(p:Int))/\ws[p]?=some (0,(x.2.2.length:Int))/\p+1+x.2.2.length<=ws.length/\gn ws nm n (cg ws p x.2.2.length) x.2.2:=by
 obtain⟨p,d,e,a,f⟩:=i.2.1 j;refine⟨p,d,e,a,kG a,λk o l b c=>?_⟩;obtain⟨m,g,h⟩:=f k l c;rw[CV (aM.1 c).1,g]at b;obtain rfl:=au b;exact h
theorem ir{ws:List Wd}{nm:List ByteArray}{n:Nat}{x:Tm (n+1)}{v:Wd}(a:dz ws nm (n+1) x v)(c:x.1.1≠4):v.1≠4:=by
 by_cases b:x.1.1=2
 ·obtain⟨d,rfl,_⟩:=a.1 b;simp
 ·rw[a.2.2 b c];exact c
theorem rA{ws:List Wd}{nm:List ByteArray}:(n:Nat)->(x:Tm n)->(v:Wd)->(S:List Wd×cQ)->dz ws nm n x v->((jm ws n v S).2.1.length:Int)<=S.1.length+sz n x/\(jm ws n v S).2.2.length<=S.2.length+(av n x).length
 | 0,_,_,_,h=>h.elim
 | n+1,x,v,S,h=>by
  have k:=(eH (n+1) x).1;by_cases c:x.1.1=4
  ·obtain⟨p,rfl,g,f,i⟩:=jb h c;cases hk:look S.2 p with
   | some q=>
    rw[DU hk];exact⟨by simp only;omega,by simp only;omega⟩
   | none=>
    rw[xN hk g];obtain⟨a,b⟩:=nY (λx v S d=>rA n x v S d) (cg ws p x.2.2.length) x.2.2 S i;have e:=px (jm ws n) (cg ws p x.2.2.length) S;rw[kG f]at e;have j:(av (n+1) x).length=1+(x.2.2.flatMap λy=>av n y).length:=by simp[av];omega
    simp only[bf,aZ,e,sz,if_pos c,j];exact⟨by omega,by omega⟩
  ·rw[tY (ir h c)];exact⟨by simp only;omega,by simp only;omega⟩
def Mr(ws:List Wd)(nm:List ByteArray)(n:Nat):Prop:=∀(x:Tm n)(v:Wd)(base c d:Nat)(a:Value)(S:List Wd×cQ)(M:Nat->Prop)(w:World),ie base c a S M w->w.ownsRow d 105 2 a ws.length (aU ws)->(∀b,a.ownBlock=some b->¬M b)->base<=w.heap.size->dz ws nm n x v->aA ⟨n,x⟩->ws.length<=100000->(S.1.length:Int)+sz n x<=90000->S.2.length+(av n x).length<=90000->
 ak 187 #[.pointer (some ⟨c,0,none⟩),G4 v] w λe w'=>e=.returned (G4 (jm ws n v S).1)/\Hid (vL base c a (jm ws n v S).2 M w w')
theorem LD(n:Nat)(p:List (Tm n))(k:Nat)(x:Tm n)(d:p[k]?=some x):((p.take k).map λy=>1+sz n y).sum+(1+sz n x)<=(p.map λy=>1+sz n y).sum:=by
 obtain⟨c,rfl⟩:=aM.1 d;have a:p=p.take k++p[k]::p.drop (k+1):=by
  rw[<-ee c,ji]
 have b:∀l:List (Tm n),0<=(l.map λy=>1+sz n y).sum:=by
  intro l
  induction l with
  | nil=>simp
  | cons y l ih=>
   have:=(eH n y).1;simp only[aI,bC];omega
 have e:=b (p.drop (k+1))
 conv=>rhs;rw[a]
 simp only[fH,List.sum_append,aI,bC];omega
theorem gn.take{ws:List Wd}{nm:List ByteArray}{n:Nat}{l:List Wd}{p:List (Tm n)}(c:gn ws nm n l p)(k:Nat):gn ws nm n (l.take k) (p.take k):=by
 refine⟨by simp[c.1],λe f g a b=>?_⟩;rw[jY]at a b;split at a
 ·rename_i d;rw[if_pos d]at b;exact c.2 e f g a b
 ·cases a
theorem sf(ws:List Wd)(nm:List ByteArray)(n:Nat)(ih:Mr ws nm n)(vs:List Wd)(p:List (Tm n))(base d l:Nat)(c:Value)(S:List Wd×cQ)(M:Nat->Prop)(a:Option Addr)(pc:Nat)(w:World)(u:ie base d c S M w)(r:w.ownsRow l 105 2 c ws.length (aU ws))(m:∀b,c.ownBlock=some b->¬M b)(I:base<=w.heap.size)(j:gn ws nm n vs p)(E:∀y∈p,aA ⟨n,y⟩)(F:ws.length<=100000)(C:vs.length<=100000)(L:(S.1.length:Int)+(p.map λy=>1+sz n y).sum<=90000)(J:S.2.length+(p.flatMap λy=>av n y).length<=90000)(A:eA w vs a)(D:∀b o,a=some ⟨b,o,none⟩->¬M b):ak 184 #[.pointer (some ⟨d,0,none⟩),.slice a vs.length pc] w λe w'=>∃g,e=.returned (.slice (some ⟨g,0,none⟩) vs.length vs.length)/\Hid (BR (jm ws n) vs base d c S M g w w'):=by
 refine xM (jm ws n) vs base d c S M a vs.length pc w rfl C u A D ?_;intro k i s t G x q v;have B:=(aM.1 s).1;obtain⟨y,h⟩:∃y,p[k]?=some y:=⟨p[k]'(by rw[<-j.1];exact B),aE _⟩;obtain⟨P,Q⟩:=nY (λH i S z=>rA n H i S z) (vs.take k) (p.take k) S (j.take k);have N:=LD n p k y h;have O:=Ar n p k y h;have K:=q.size;refine ih y i base d l c _ t G x (dK r q λb e=>m b e) ?_ (by omega) (j.2 k i y s h) (E y (aG h)) F (by omega) (by omega);intro b e f;rcases v b f with f|f
 ·exact m b e f
 ·have:=(r.lt b e).2;omega
theorem tT{base b:Nat}{c:Value}{S:List Wd×cQ}{M:Nat->Prop}{w w':World}(a:ie base b c S M w)(d:ai w w'):vL base b c S M w w':=
 ⟨(a.later d).mono λ_ a=>ag a.1,aV d M⟩
theorem Ll(ws:List Wd)(nm:List ByteArray)(n:Nat)(ih:Mr ws nm n)(ps:List (Tm n))(p:Nat)(base i t:Nat)(l:Value)(S:List Wd×cQ)(M:Nat->Prop)(w:World)(c:ie base i l S M w)(F:w.ownsRow t 105 2 l ws.length (aU ws))(P:∀b,l.ownBlock=some b->¬M b)(aR:base<=w.heap.size)(aC:ws[p]?=some (0,(ps.length:Int)))(R:p+1+ps.length<=ws.length)(U:gn ws nm n (cg ws p ps.length) ps)(aD:∀y∈ps,aA ⟨n,y⟩)(aP:ps.length<=8)(V:ws.length<=100000)(aF:(S.1.length:Int)+(ps.map λy=>1+sz n y).sum<=90000)(aB:S.2.length+(ps.flatMap λy=>av n y).length<=90000)(ay:look S.2 p=none):ak 187 #[.pointer (some ⟨i,0,none⟩),G4 (4,(p:Int))] w λe w'=>e=.returned (G4 (4,((gB (jm ws n) (cg ws p ps.length) S).2.1.length:Int)))/\ Hid (vL base i l ((gB (jm ws n) (cg ws p ps.length) S).2.1++(0,(ps.length:Int))::(gB (jm ws n) (cg ws p ps.length) S).1,(p,(gB (jm ws n) (cg ws p ps.length) S).2.1.length)::(gB (jm ws n) (cg ws p ps.length) S).2.2) M w w'):=by
 obtain⟨d,u,Q,_,_⟩:=F.form (by omega);have E:=kG R;obtain⟨aZ,a0⟩:=nY (λaL aI S aq=>rA n aL aI S aq) (cg ws p ps.length) ps S U;refine Lh base i l S M p _ d ws.length u ps.length w _ c Q ay (by omega) ?_;intro Y j aQ;subst Q;have aS:=(F.lt d rfl).2;have T:Y.ownsRow t 105 2 (.slice (some ⟨d,0,none⟩) ws.length u) ws.length (aU ws):=dG F j;refine(wF t d ws.length u p ps.length ws Y V T aC R).mono ?_;rintro e w' ⟨rfl,pa,pc,rfl,_,aE,o,rfl⟩;refine⟨rfl,o,pc,rfl,?_⟩;have ar:eA w' (cg ws p ps.length) (some ⟨d,o,none⟩):=BG aE (by have:=j.size;omega);have O:=sf ws nm n ih (cg ws p ps.length) ps base i t (.slice (some ⟨d,0,none⟩) ws.length u) S _ (some ⟨d,o,none⟩) pc w' (c.later j) T (λb e a=>P b e a.1) (by have:=j.size;omega) U aD V (by omega) aF aB ar (λb aY e a=>P b (by injection e with e;injection e with e;subst e;rfl) a.1);rw[E]at O;refine O.mono ?_;rintro e aK ⟨g,rfl,ab⟩;obtain⟨A,G,s,ad,ae,aM,H⟩:=ab.out;rw[E]at H;have v:∀b,A b->(M b/\b<w.heap.size)\/w'.heap.size<=b:=ad;have aT:=s.size;refine⟨g,rfl,λm=>bm (s.block _ (by omega) (λa=>by omega)) m,?_,?_⟩
 ·obtain⟨aH,x,Z,q,_⟩:=G;exact q.cells.1.1
 refine(Oq base i _ _ A (gB (jm ws n) (cg ws p ps.length) S).1 ps.length ps.length (some ⟨g,0,none⟩) aK G (by have:=j.size;omega) (by omega) (by rw[px];exact E) (by omega) ?_).mono ?_
 ·intro a1 ax;exact ah ⟨_,rfl,(dK H ax (λb e=>by simp only[Value.ownBlock]at e;obtain rfl:=au e;exact ae)).cells (g:=g) rfl⟩
 rintro e r ⟨rfl,aa⟩;obtain⟨I,B⟩:=aa.out;have aW:=B.size;have D:∀b,w.heap.size<=b->b<w.heap.size+2->¬A b:=λb f h a=>by
  rcases v b a with k|k<;>omega
 have L:∀b,w.heap.size<=b->b<w.heap.size+2->r.heap[b]?=w'.heap[b]? :=λb f h=>(B.block b (by omega) (D b f h)).trans (s.block b (by omega) (λa=>by omega));refine⟨rfl,λm=>bm (L _ (aj _) (by omega)) m,?_,?_⟩
 ·obtain⟨aH,x,Z,q,_⟩:=I;exact q.cells.1.1
 have bd:ai r r.drew:=(am _ _).drew;have af:=I.kept (aV bd (λ_=>False)) (λ_ _ _ c=>c);obtain⟨x,al,z,an,ao,C,J,aN,ap⟩:=Lj af p (gB (jm ws n) (cg ws p ps.length) S).2.1.length (by omega) (by omega) (by simp only;omega);have az:∀b,w.heap.size<=b->b<w.heap.size+2->b≠x:=λb f h e=>by
  subst e;rcases J with k|k
  ·exact D _ f h k
  ·omega
 have aX:=C.size;have aO:r.drew.heap.size=r.heap.size:=rfl;have N:∀b,w.heap.size<=b->b<w.heap.size+2->z.heap[b]?=w'.heap[b]? :=λb f h=>(C.block b (by omega) (az b f h)).trans (L b f h);refine⟨x,z,al,an,λm=>bm (N _ (aj _) (by omega)) m,ap,λaw=>(N _ (by omega) (by omega)).trans aw,λX aJ=>?_⟩;have q:=bi z (w.heap.size+1) 0 X;have aG:=bi (z.setCell ⟨w.heap.size+1,0,none⟩ X) (w.heap.size+1) 1 aJ;have W:=q.trans aG (λb _ c=>c);refine⟨(ao.kept W ?_).mono ?_,?_⟩
 ·rintro b (a|a) _ rfl
  ·exact D _ (by omega) (by omega) a
  ·omega
 ·rintro b (a|a)
  ·rcases v b a with k|k
   ·exact ag k.1
   ·exact ah (by omega)
  ·exact ah (by omega)
 ·refine(((((aV j M).trans s ?_).trans B ?_).trans (aV bd (λ_=>False)) ?_).trans C ?_).trans W ?_
  ·exact λb _ a=>a.1
  ·intro b K a;rcases v b a with k|k
   ·exact k.1
   ·omega
  ·exact λ_ _ c=>c.elim
  ·rintro b K rfl;rcases J with k|k
   ·rcases v _ k with k|k
    ·exact k.1
    ·omega
   ·omega
  ·intro b K c;omega
theorem Lg(ws:List Wd)(nm:List ByteArray)(n:Nat):Mr ws nm n:=by
 induction n with
 | zero=>intro a o i d p j c h g _ _ _ _ f;exact f.elim
 | succ n ih=>
  intro a o i d p j c h g e z v u f s B G F;have w:=s (bu n a) (by simp[av,bu]);have y:a.2.2.length<=8:=lH (bu n a) w;have H:(av (n+1) a).length=1+(a.2.2.flatMap λb=>av n b).length:=by simp[av];omega
  by_cases k:a.1.1=4
  ·obtain⟨m,rfl,r,x,A⟩:=jb f k;cases hk:look c.2 m with
   | some D=>
    rw[DU hk];refine(Li i d j c h m D g e hk (by omega)).mono ?_;rintro q E ⟨rfl,l⟩;exact⟨rfl,tT e l⟩
   | none=>
    rw[xN hk r];have q:sz (n+1) a=1+(a.2.2.map λb=>1+sz n b).sum:=by simp only[sz,if_pos k]
    exact Ll ws nm n ih a.2.2 m i d p j c h g e z v u r x A (λb C=>aR n a b s C) y B (by omega) (by omega) hk
  ·have t:=ir f k;rw[tY t];refine(I8 d o.1 o.2 g t).mono ?_;rintro q E ⟨rfl,l⟩;exact⟨rfl,tT e l⟩
theorem KH(w:World)(a:Value):ie w.heap.size (w.heap.size+1) a ([],[]) (λb=>w.heap.size<=b) ((w.alloc (.map #[] 0)).alloc (.cells #[a,.slice none 0 0,.map (some w.heap.size)] 269)):=by
 have e:=oM w Tryz.prog 3 (plainElem (H:=Unit) Tryz.prog 3);have es:∀o,(w.alloc o).heap.size=w.heap.size+1:=λo=>by simp
 have c:=az (w.alloc (.map #[] 0)) (.cells #[a,.slice none 0 0,.map (some w.heap.size)] 269);rw[es]at c;exact⟨.slice none 0 0,w.heap.size,.map [],c,ek _ _ _ _,e.alloc _,J4,by omega,λb d=>by simp[Value.ownBlock]at d,aj _⟩
def ko(R:List Wd×List Wd×cQ)(len g:Nat)(tv:Value)(w w':World):Prop:=
 ai w w'/\w'.ownsRow w.heap.size 105 2 tv R.2.1.length (aU R.2.1)/\w'.ownsRow g 105 2 (.slice (some ⟨g,0,none⟩) len len) len (aU R.1)/\w.heap.size<=g/\tv.ownBlock≠some g
theorem yy(R:List Wd×List Wd×cQ)(c:Value)(d:Option Addr)(L f:Nat)(a:Option Addr)(len pc:Nat)(w:World)(i:c=.slice d L f)(b:Hid (ak 184 #[.pointer (some ⟨w.heap.size+1,0,none⟩),.slice a len pc] ((w.alloc (.map #[] 0)).alloc (.cells #[.slice d L f,.slice none 0 0,.map (some w.heap.size)] 269)) λe w'=>∃g tv,e=.returned (.slice (some ⟨g,0,none⟩) len len)/\w'.cell? ⟨w.heap.size+1,1,none⟩=some tv/\Hid (ko R len g tv w w'))):ak 177 #[c,.slice a len pc] w λe w'=>∃g tv,e=.returned (.tuple #[tv,.slice (some ⟨g,0,none⟩) len len])/\Hid (ko R len g tv w w'):=by
 subst i;have j:= @run_makeMap Tryz.prog;go_enter Tryz.func177,Tryz.ntmps177;go_wp2_with fail;refine b.out.mono ?_;rintro e l ⟨g,tv,rfl,k,h⟩;clear b j;go_wp2_with fail;exact ar (v:=.tuple #[tv,.slice (some ⟨g,0,none⟩) len len]) (by simp[results,Tryz.results177,go_sem]) rfl ⟨g,tv,rfl,h⟩
theorem AZ(ws:List Wd)(nm:List ByteArray)(n:Nat)(vs:List Wd)(p:List (Tm n))(q:Nat)(d:Value)(a:Option Addr)(pc:Nat)(w:World)(k:w.ownsRow q 105 2 d ws.length (aU ws))(G:gn ws nm n vs p)(F:∀y∈p,aA ⟨n,y⟩)(H:ws.length<=100000)(B:vs.length<=100000)(I:(p.map λy=>1+sz n y).sum<=90000)(D:(p.flatMap λy=>av n y).length<=90000)(h:eA w vs a)(E:∀b o,a=some ⟨b,o,none⟩->b<w.heap.size):ak 177 #[d,.slice a vs.length pc] w λe w'=>∃g tv,e=.returned (.tuple #[tv,.slice (some ⟨g,0,none⟩) vs.length vs.length])/\Hid (ko (gB (jm ws n) vs ([],[])) vs.length g tv w w'):=by
 obtain⟨l,m,r⟩:∃l m,d=.slice l ws.length m:=by
  rcases k.2 with⟨e,x⟩|⟨g,c,R,e,_⟩
  ·exact⟨none,0,by rw[e,x]⟩
  ·exact⟨_,c,e⟩
 refine yy _ d l ws.length m a vs.length pc w r ?_;have f:ai w ((w.alloc (.map #[] 0)).alloc (.cells #[d,.slice none 0 0,.map (some w.heap.size)] 269)):=((am _ _).alloc (aj _) _).alloc (by simp) _;have z:=KH w d;have S:((w.alloc (.map #[] 0)).alloc (.cells #[d,.slice none 0 0,.map (some w.heap.size)] 269)).heap.size=w.heap.size+2:=by simp
 rw[<-r];generalize (w.alloc (.map #[] 0)).alloc (.cells #[d,.slice none 0 0,.map (some w.heap.size)] 269)=wA at*;have A:eA wA vs a:=by
  rcases h with h|⟨b,o,e,j,h⟩
  ·exact ag h
  ·exact ah ⟨b,o,e,by omega,λt u s=>⟨(ap f b _ j).trans (h t u s).1,(ap f b _ j).trans (h t u s).2⟩⟩
 refine(sf ws nm n (Lg ws nm n) vs p w.heap.size (w.heap.size+1) q d ([],[]) _ a pc wA z (dG k f) (λb e C=>by have:=(k.lt b e).2;omega) (by omega) G F H B (by simpa using I) (by simpa using D) A ?_).mono ?_
 ·intro b o e C;have:=E b o e;omega
 ·rintro e w' ⟨g,rfl,v⟩;obtain⟨Q,M,i,X,N,Y,O⟩:=v.out;obtain⟨tv,Z,P,J,K,T,U,V,L,W⟩:=M;refine⟨g,tv,rfl,J.cells.1.2.1,⟨?_,?_,?_,?_,?_⟩,K,O,by omega,λe=>N (L g e)⟩
  ·exact i.os.trans f.os
  ·exact i.tape.trans f.tape
  ·exact i.output.trans f.output
  ·have:=i.size;omega
  ·intro b j;exact(i.block b (by omega) (by omega)).trans (f.block b j)
theorem zJ{base:Nat}{c:ci}{room:Int}{ws:List Wd}{nm:List ByteArray}{M:Nat->Prop}{R:List Wd×List Wd×cQ}{len g:Nat}{tv:Value}{w w1 w2:World}(n:dy base c room ws nm M w)(i:ai w w1)(r:ko R len g tv w1 w2)(z:base<=w.heap.size):lq base c room R.2.1 nm M w (w2.setCell ⟨c.b,c.o+1,none⟩ tv):=by
 obtain⟨v,l,A,B,C⟩:=r;have s:=i.size;have j:=i.trans (v.mono s);obtain⟨D,t,u,e,x,f,h,y,p,q⟩:=n.later j;have k:=bi w2 c.b (c.o+1) tv;have m:∀b,tv.ownBlock=some b->w1.heap.size<=b:=λb a=>(l.lt b a).1;refine⟨⟨tv,t,u,e.set1 tv,dK (qK l (by omega)) k (λb a d=>?_),f.kept k (λb a d=>?_) (λb a d=>?_),ag h.1,λb a=>ah (by have:=m b a;omega),λb a=>ag (p b a).1,λb a=>ag (q b a).1⟩,(aV j M).trans k ?_⟩
 ·subst d;have:=m _ a;have:=h.2;omega
 ·subst d;exact mN f.1 e (by decide) a
 ·subst d;exact tp f e a
 ·rintro b _ rfl;exact h.1
theorem xK(R:List Wd×List Wd×cQ)(d:ci)(p:Option Addr)(L r:Nat)(a:Option Addr)(len pc:Nat)(w:World)(k:d.b<w.heap.size)(i:w.cell? ⟨d.b,d.o+1,none⟩=some (.slice p L r))(j:w.frozen? ⟨d.b,d.o+1,none⟩=false)(l:Hid (ak 176 #[.pointer (some ⟨d.b,d.o,none⟩),.slice a len pc] w λe w'=>e=.returned (.bool true)/\ai w w'))(m:Hid (∀w1,ai w w1->ak 177 #[.slice p L r,.slice a len pc] w1 λe w'=>∃g tv,e=.returned (.tuple #[tv,.slice (some ⟨g,0,none⟩) len len])/\Hid (ko R len g tv w1 w'))):ak 165 #[.pointer (some ⟨d.b,d.o,none⟩),.slice a len pc] w λe w'=>∃g tv w1 w2,e=.returned (.tuple #[.slice (some ⟨g,0,none⟩) len len,ab 0])/\w'=w2.setCell ⟨d.b,d.o+1,none⟩ tv/\Hid (ai w w1/\ko R len g tv w1 w2):=by
 go_enter Tryz.func165,Tryz.ntmps165;go_wp2_with fail;refine l.out.mono ?_;rintro e w1 ⟨rfl,f⟩;have HB:=ao f;replace i:=(ap f d.b (d.o+1) k).trans i;replace j:=(gt f d.b (d.o+1) k).trans j;have n:d.b<w1.heap.size:=aL k f.size;clear f l;go_wp2_with fail;refine(m.out w1 HB.out).mono ?_;rintro e w2 ⟨g,tv,rfl,h⟩;obtain⟨q,s,rfl⟩:∃q s,tv=.slice q R.2.1.length s:=by
  rcases h.out.2.1.2 with⟨e,t⟩|⟨g,c,u,e,_⟩
  ·exact⟨none,0,by rw[e,t]⟩
  ·exact⟨_,c,e⟩
 replace i:=(ap h.out.1 d.b (d.o+1) n).trans i;replace j:=(gt h.out.1 d.b (d.o+1) n).trans j;clear m;go_wp2_with fail
 go_ret2
 exact⟨g,_,w1,w2,rfl,rfl,HB.out,h.out⟩
theorem gn.mem{ws:List Wd}{nm:List ByteArray}{n:Nat}{l:List Wd}{p:List (Tm n)}(b:gn ws nm n l p){v:Wd}(e:v∈l):∃y∈p,dz ws nm n y v:=by
 obtain⟨a,c⟩:=cJ e;have d:a<p.length:=by rw[<-b.1];exact(aM.1 c).1
 exact⟨p[a],je _,b.2 a v p[a] c (aE d)⟩
def EG(g c:cQ)(a b:Nat):Prop:=∀p,(p<a\/b<=p)->look c p=look g p
theorem F9{d a C:List Wd}{b:Wd}(k:(a++b::C) <+:d):cg d a.length C.length=C:=by
 obtain⟨c,rfl⟩:=k;unfold cg;rw[show a++b::C++c=(a++ [b])++(C++c) by simp];rw[List.drop_left' (by simp),List.take_left' rfl]
end Go.Proofs.YtckamaoibonjcaaGreat
