/- What is proved here: plain facts and contracts that the claimed theorem stands on. No condition but those that each names. -/
import Derived.Test.YtnidfceinoiboaaGreatG17
namespace Go.Proofs.YtnidfceinoiboaaGreat
open Go.RowKit
open Go.RowKit Go.Maps
set_option maxHeartbeats 1000000
set_option maxRecDepth 100000
theorem Br{c:Type}{l b:List c}(d:l <+:b){i:Nat}{x:c}(a:l[i]?=some x):b[i]?=some x:=by
 obtain⟨e,rfl⟩:=d;rw[cY (aK.1 a).1];exact a
theorem dA.mono{ws l:List Wd}{nm k:List ByteArray}(d:ws <+:l)(j:nm <+:k):{n:Nat}->{x:Tm n}->{v:Wd}->dA ws nm n x v->dA l k n x v
 | 0,_,_,h=>h
 | n+1,x,v,h=>by
  obtain⟨a,b,c⟩:=h;refine⟨λe=>?_,λe=>?_,c⟩
  ·obtain⟨i,f,g⟩:=a e;exact⟨i,f,Br j g⟩
  ·obtain⟨p,f,g,m,o⟩:=b e;refine⟨p,f,Br d g,au m d.length_le,λi y s=>?_⟩;obtain⟨u,q,r⟩:=o i y s;exact⟨u,Br d q,r.mono d j⟩
theorem DP(nm:List ByteArray)(s:ByteArray):nm <+:ei nm s:=by
 unfold ei;split
 ·exact fK _
 ·exact nV _ _
theorem pJ{n:Nat}(f:∀(x:Tm n)(ws:List Wd)(nm:List ByteArray),ws <+:(aN n x ws nm).2.1/\nm <+:(aN n x ws nm).2.2)(l:List (Tm n))(ws:List Wd)(nm:List ByteArray):ws <+:(bw (aN n) l ws nm).2.1/\nm <+:(bw (aN n) l ws nm).2.2:=by
 induction l generalizing ws nm with
 | nil=>exact⟨fK _,fK _⟩
 | cons a l ih=>
  obtain⟨d,b⟩:=f a ws nm;obtain⟨c,e⟩:=ih (aN n a ws nm).2.1 (aN n a ws nm).2.2;exact⟨d.trans c,b.trans e⟩
theorem lq:(n:Nat)->(x:Tm n)->(ws:List Wd)->(nm:List ByteArray)->ws <+:(aN n x ws nm).2.1/\nm <+:(aN n x ws nm).2.2
 | 0,_,_,_=>⟨fK _,fK _⟩
 | n+1,x,ws,nm=>by
  by_cases c:x.1.1=2
  ·simp only[aN,if_pos c];exact⟨fK _,DP _ _⟩
  ·by_cases d:x.1.1=4
   ·simp only[aN,if_neg c,if_pos d];obtain⟨a,b⟩:=pJ (lq n) x.2.2 ws nm;exact⟨a.trans (nV _ _),b⟩
   ·simp only[aN,if_neg c,if_neg d];exact⟨fK _,fK _⟩
theorem Ge(nm:List ByteArray)(s:ByteArray):(ei nm s)[kp (ei nm s) s]?=some s:=by
 have d:s∈ei nm s:=by
  unfold ei;split
  ·rename_i b;exact(wP nm s).1 b
  ·simp
 have a:kp (ei nm s) s<(ei nm s).length:=by
  unfold kp;rw[List.findIdx_lt_length];exact⟨s,d,(ny s s).2 rfl⟩
 have c:(ei nm s)[kp (ei nm s) s]'a=s:=(ny s _).1 (List.findIdx_getElem (w:=a));rw[aA a,c]
theorem mS{n:Nat}(h:∀(x:Tm n)(ws:List Wd)(nm:List ByteArray),aB ⟨n,x⟩->dA (aN n x ws nm).2.1 (aN n x ws nm).2.2 n x (aN n x ws nm).1)(l:List (Tm n))(ws:List Wd)(nm:List ByteArray)(d:∀y∈l,aB ⟨n,y⟩):∀(i:Nat)(y:Tm n),l[i]?=some y->∃u,(bw (aN n) l ws nm).1[i]?=some u/\dA (bw (aN n) l ws nm).2.1 (bw (aN n) l ws nm).2.2 n y u:=by
 induction l generalizing ws nm with
 | nil=>intro i y a;simp at a
 | cons c l ih=>
  intro i y a;cases i with
  | zero=>
   simp at a;subst a;obtain⟨e,b⟩:=pJ (lq n) l (aN n c ws nm).2.1 (aN n c ws nm).2.2;exact⟨(aN n c ws nm).1,rfl,(h c ws nm (d c (by simp))).mono e b⟩
  | succ i=>
   obtain⟨u,f,g⟩:=ih (aN n c ws nm).2.1 (aN n c ws nm).2.2 (λy a=>d y (by simp[a])) i y (by simpa using a);exact⟨u,by simpa [bw]using f,g⟩
theorem fZ:(n:Nat)->(x:Tm n)->(ws:List Wd)->(nm:List ByteArray)->aB ⟨n,x⟩->dA (aN n x ws nm).2.1 (aN n x ws nm).2.2 n x (aN n x ws nm).1
 | 0,_,_,_,h=>(cX h).elim
 | n+1,x,ws,nm,h=>by
  by_cases b:x.1.1=2
  ·have c:¬x.1.1=4:=by omega
   simp only[aN,if_pos b];exact⟨λ_=>⟨_,rfl,Ge _ _⟩,λa=>absurd a c,λa=>absurd b a⟩
  ·by_cases c:x.1.1=4
   ·simp only[aN,if_neg b,if_pos c];have j:=f9 (aN n) x.2.2 ws nm;refine⟨λa=>absurd a b,λ_=>⟨_,rfl,?_,?_,λe f d=>?_⟩,λ_ a=>absurd c a⟩
    ·rw[dN (ag _),iZ];rfl
    ·simp only[aX,aW,j];omega
    ·obtain⟨k,g,i⟩:=mS (fZ n) x.2.2 ws nm (λf d=>aU n x f h d) e f d;refine⟨k,?_,i.mono (nV _ _) (fK _)⟩;rw[dN (by omega)];have:(bw (aN n) x.2.2 ws nm).2.1.length+1+e-(bw (aN n) x.2.2 ws nm).2.1.length=e+1:=by omega
     rw[this];simpa using g
   ·simp only[aN,if_neg b,if_neg c];exact⟨λa=>absurd a b,λa=>absurd a c,λ_ _=>rfl⟩
def xL(q:Nat)(w:World):Prop:=w.heap[q]?=some (.cells #[.int .i64 0,.int .i64 0] 125)
theorem xL.facts{q:Nat}{w:World}(a:xL q w):(w.cell? ⟨q,0,none⟩=some (.int .i64 0)/\w.cell? ⟨q,1,none⟩=some (.int .i64 0))/\w.frozen? ⟨q,0,none⟩=false/\w.frozen? ⟨q,1,none⟩=false:=by
 unfold xL at a;refine⟨⟨?_,?_⟩,?_,?_⟩
 all_goals simp[World.cell?,World.frozen?,a]
theorem zW{ws:List Wd}{nm:List ByteArray}{n:Nat}{x:Tm n}{v:Wd}(h:dA ws nm n x v)(r:aB ⟨n,x⟩)(g:aF n x=true)(t:ws.length<=100000)(s:nm.length<=100000):cq ws nm v=true/\dc v.2:=by
 cases n with
 | zero=>exact h.elim
 | succ n=>
 have d:=r (bm n x) (by simp[aq,bm]);have i:=jD (bm n x) d;simp only[bm]at i;simp only[aF,az,nO,gP]at g;obtain⟨m,b,c⟩:=h;by_cases e:x.1.1=2
 ·obtain⟨k,rfl,p⟩:=m e;have j:=(aK.1 p).1;refine⟨?_,?_⟩
  ·simp[cq,tf,j]
  ·unfold dc;show (-9223372036854775808:Int)<=(k:Int)/\(k:Int)<=9223372036854775807;omega
 ·by_cases f:x.1.1=4
  ·obtain⟨l,rfl,q,j,_⟩:=b f;refine⟨?_,?_⟩
   ·simp[cq,fA,q]
   ·unfold dc;show (-9223372036854775808:Int)<=(l:Int)/\(l:Int)<=9223372036854775807;omega
  ·obtain rfl:=c e f;refine⟨?_,(td _ d).2⟩;have o:x.1.1=1\/x.1.1=3:=by
    rcases i with a|a|a|a|a|a
    ·exact ae a
    ·exact absurd a e
    ·exact af a
    ·exact absurd a f
    ·exact absurd a g.1.1
    ·exact absurd a.1 g.1.2
   unfold bT at d;simp only[bm]at d;rcases o with a|a
   ·simp[cq,a]at d ⊢;exact d.1.2
   ·simp[cq,a]at d ⊢;exact d.1.2
theorem FN(n:Nat)(x:Tm n)(v:Wd)(base:Nat)(a:bW)(room:Int)(ws:List Wd)(nm:List ByteArray)(M:Nat->Prop)(w:World)(h:dy base a room ws nm M w)(d:dA ws nm n x v)(j:aB ⟨n,x⟩)(m:aF n x=true)(f:ws.length<=100000)(i:nm.length<=100000):Calls Tryz.prog 76 #[.pointer (some ⟨a.b,a.o,none⟩),EU v] w λe w'=>∃y:Tm n,e=.returned (.tuple #[dg n y,.int .i64 0])/\Hid (Below w.heap.size w w'/\In w'.heap.size w' n y/\ch (λq=>w.heap.size<=q) n y/\aw n y n x=true):=by
 cases n with
 | zero=>exact d.elim
 | succ n=>
 obtain⟨l,p⟩:=zW d j m f i;refine Kp n x a v.1 v.2 w ?_ ?_
 ·intro g c;have k:=ua base a room ws nm _ v g (h.later c) f p;rw[l]at k;exact k
 ·exact λg c=>G0 (n+1) x v base a room ws nm _ g (h.later c) f i d j
abbrev cJ:=List (Nat×Nat)
def look(g:cJ)(p:Nat):Option Nat:=(g.find? λe=>e.1==p).map λe=>e.2
theorem qG(g:cJ)(p q:Nat):look ((p,q)::g) p=some q:=by simp[look]
theorem oR(g:cJ){p r:Nat}(q:Nat)(a:r≠p):look ((p,q)::g) r=look g r:=by
 have:(p==r)=false:=by simp;omega
 simp[look,this]
def fX(f:Wd->List Wd×cJ->Wd×List Wd×cJ):List Wd->List Wd×cJ->List Wd×List Wd×cJ
 | [],S=>([],S)
 | v::l,S=>((f v S).1::(fX f l (f v S).2).1,(fX f l (f v S).2).2)
def je(ws:List Wd):Nat->Wd->List Wd×cJ->Wd×List Wd×cJ
 | 0,v,S=>(v,S)
 | n+1,v,S=>
  if v.1=4 then
   match look S.2 v.2.toNat with
   | some q=>((4,(q:Int)),S)
   | none=>
    match ws[v.2.toNat]? with
    | some a=>((4,((fX (je ws n) ((ws.drop (v.2.toNat+1)).take a.2.toNat) S).2.1.length:Int)),(fX (je ws n) ((ws.drop (v.2.toNat+1)).take a.2.toNat) S).2.1++(0,a.2)::(fX (je ws n) ((ws.drop (v.2.toNat+1)).take a.2.toNat) S).1,(v.2.toNat,(fX (je ws n) ((ws.drop (v.2.toNat+1)).take a.2.toNat) S).2.1.length)::(fX (je ws n) ((ws.drop (v.2.toNat+1)).take a.2.toNat) S).2.2)
    | none=>(v,S)
  else (v,S)
theorem Ft(f:Wd->List Wd×cJ->Wd×List Wd×cJ)(l:List Wd)(v:Wd)(S:List Wd×cJ):fX f (l++ [v]) S=((fX f l S).1++ [(f v (fX f l S).2).1],(f v (fX f l S).2).2):=by
 induction l generalizing S with
 | nil=>simp[fX]
 | cons a l ih=>simp[fX,ih]
theorem oH(f:Wd->List Wd×cJ->Wd×List Wd×cJ)(l:List Wd)(S:List Wd×cJ):(fX f l S).1.length=l.length:=by
 induction l generalizing S with
 | nil=>simp[fX]
 | cons a l ih=>simp[fX,ih]
def sD(D:DataW Unit)(g:cJ):Prop:=∀p:Nat,(Maps.has D (.int .i64 p)=true ↔ (look g p).isSome=true)/\∀q:Nat,look g p=some q->D.atKey (.int .i64 p) (.lit (.int .i64 0))=.lit (.int .i64 q)
theorem Hj:sD (.map []) []:=λp=>⟨by simp[Maps.has,look],λq a=>by simp[look]at a⟩
theorem CD(k:Int):WideAt.IsKeyLit (.int .i64 k):=by first|trivial|simp[WideAt.IsKeyLit]|decide
theorem Hk{w:World}{j L:Nat}{D:DataW Unit}{g:cJ}(f:w.ownsMap Tryz.prog 3 (plainElem Tryz.prog 3) j L D)(e:sD D g)(p q:Nat):sD (D.put (.int .i64 p) (.lit (.int .i64 q))) ((p,q)::g):=by
 intro c;by_cases b:c=p
 ·subst b;refine⟨?_,λi a=>?_⟩
  ·rw[has_put_same f.isMap (CD _),qG];simp
  ·rw[qG]at a;rw[atKey_put_same f.isMap (CD _),ap a]
 ·have h:(Lit.int .i64 (c:Int))≠(Lit.int .i64 (p:Int)):=λd=>b (by injection d with _ d;omega);refine⟨?_,λi a=>?_⟩
  ·rw[has_put_other h,oR g q b];exact(e c).1
  ·rw[oR g q b]at a;rw[atKey_put_other h];exact(e c).2 i a
theorem A0:Keyed Tryz.prog 3:=int_keyed Tryz.underlying3
def CB(a:Nat)(b tv mv:Value)(w:World):Prop:=w.heap[a]?=some (.cells #[b,tv,mv] 253)
theorem CB.lt{a:Nat}{b tv mv:Value}{w:World}(c:CB a b tv mv w):a<w.heap.size:=(aE.1 c).1
theorem CB.cells{a:Nat}{b tv mv:Value}{w:World}(c:CB a b tv mv w):(w.cell? ⟨a,0,none⟩=some b/\w.cell? ⟨a,1,none⟩=some tv/\w.cell? ⟨a,2,none⟩=some mv)/\∀j,w.frozen? ⟨a,j,none⟩=false:=by
 unfold CB at c;refine⟨⟨?_,?_,?_⟩,λj=>?_⟩
 all_goals simp[World.cell?,World.frozen?,c]
theorem CB.set1{a:Nat}{b tv mv:Value}{w:World}(c:CB a b tv mv w)(v:Value):CB a b v mv (w.setCell ⟨a,1,none⟩ v):=by
 unfold CB at*;simp[World.setCell,bJ,c]
theorem CB.kept{a:Nat}{b tv mv:Value}{w w':World}(c:CB a b tv mv w)(k:w'.heap[a]?=w.heap[a]?):CB a b tv mv w':=k.trans c
def gR(base e:Nat)(f:Value)(S:List Wd×cJ)(M:Nat->Prop)(w:World):Prop:=
 ∃c a d,CB e f c (.map (some a)) w/\w.ownsRow base 125 2 c S.1.length (aP S.1)/\w.ownsMap Tryz.prog 3 (plainElem Tryz.prog 3) a S.2.length d/\sD d S.2/\M e/\(∀b,c.ownBlock=some b->M b)/\M a
theorem gR.kept{base a:Nat}{g:Value}{S:List Wd×cJ}{M T:Nat->Prop}{w w':World}(q:gR base a g S M w)(k:bD T w w')(d:∀b,M b->b<w.heap.size->¬T b):gR base a g S M w':=by
 obtain⟨u,e,o,c,h,i,r,j,l,m⟩:=q;refine⟨u,e,o,c.kept (k.block a c.lt (d a j c.lt)),dJ h k λb f=>d b (l b f) (h.lt b f).2,?_,r,j,l,m⟩;have n:=i.lt;obtain⟨es,p,s,t⟩:=i;exact⟨es,p,(k.block e n (d e m n)).trans s,t⟩
theorem gR.inside{base a:Nat}{d:Value}{S:List Wd×cJ}{M:Nat->Prop}{w:World}(i:gR base a d S M w):gR base a d S (λb=>M b/\b<w.heap.size) w:=by
 obtain⟨o,n,h,e,f,g,j,k,l,m⟩:=i;exact⟨o,n,h,e,f,g,j,⟨k,e.lt⟩,λb c=>⟨l b c,(f.lt b c).2⟩,m,g.lt⟩
theorem gR.later{base c:Nat}{d:Value}{S:List Wd×cJ}{M:Nat->Prop}{w e:World}(a:gR base c d S M w)(f:Below w.heap.size w e):gR base c d S (λb=>M b/\b<w.heap.size) e:=
 a.inside.kept (aR f (λ_=>False)) λ_ _ _ a=>a
theorem gR.mono{base a:Nat}{c:Value}{S:List Wd×cJ}{M T:Nat->Prop}{w:World}(f:gR base a c S M w)(k:∀b,M b->T b):gR base a c S T w:=by
 obtain⟨p,o,d,g,h,i,j,l,m,n⟩:=f;exact⟨p,o,d,g,h,i,j,k _ l,λb e=>k b (m b e),k _ n⟩
theorem Gi(a:Nat)(k u:Int)(w:World)(b:¬k=4):Calls Tryz.prog 173 #[.pointer (some ⟨a,0,none⟩),.agg #[.int .i64 k,.int .i64 u]] w λe w'=>e=.returned (.agg #[.int .i64 k,.int .i64 u])/\Below w.heap.size w w':=by
 have c:(k !=4)=true:=by simpa using b
 go_enter Tryz.func173,Tryz.ntmps173;go_wp2_with fail;exact ao (v:=.agg #[.int .i64 k,.int .i64 u]) (by simp[results,Tryz.results173,go_sem]) rfl ⟨rfl,by go_grown⟩
theorem Jy{D:DataW Unit}{g:cJ}(b:sD D g){p q:Nat}{c:Int}(d:look g p=some q)(a:D.atKey (.int .i64 p) (.lit (.int .i64 0))=.lit (.int .i64 c)):c=q:=by
 have:=(b p).2 q d;rw[this]at a;simp at a;exact a.symm
theorem I1(base h:Nat)(y:Value)(S:List Wd×cJ)(M:Nat->Prop)(p q:Nat)(w:World)(d:Hid (gR base h y S M w))(s:Hid (look S.2 p=some q))(Q:p<=100000):Calls Tryz.prog 173 #[.pointer (some ⟨h,0,none⟩),.agg #[.int .i64 4,.int .i64 p]] w λe w'=>e=.returned (.agg #[.int .i64 4,.int .i64 q])/\Below w.heap.size w w':=by
 go_enter Tryz.func173,Tryz.ntmps173;go_wp2_with fail;generalize i:(w.alloc (Obj.cells #[Value.int IntKind.i64 4,Value.int IntKind.i64 p] 125)).alloc (Obj.cells #[.int .i64 0,.int .i64 0] 125)=a;have k:Hid (Below w.heap.size w a.drew/\a.drew.heap.size=w.heap.size+2):=by
  subst i;exact⟨(((ah _ _).alloc (ag _) _).alloc (by simp) _).drew,by simp[World.drew]⟩
 have L:a.cell? ⟨w.heap.size,1,none⟩=some (.int .i64 p):=by subst i;simp[go_sem]
 have m:Hid (xL (w.heap.size+1) a.drew):=by
  subst i;have:=ax (w.alloc (Obj.cells #[Value.int IntKind.i64 4,Value.int IntKind.i64 p] 125)) (Obj.cells #[.int .i64 0,.int .i64 0] 125);have es:∀o,(w.alloc o).heap.size=w.heap.size+1:=λo=>by simp
  rw[es]at this;exact this
 obtain⟨f,K,E⟩:∃f,a.cell? ⟨h,2,none⟩=some (.map (some f))/\(Instr.lookup 251 (.map (some f)) (.int .i64 p) true).run Tryz.prog a.drew=.ok (.tuple #[.int .i64 q,.bool true]) a.drew:=by
  obtain⟨R,f,u,z,P,A,r,_⟩:=d.out.later k.out.1;obtain⟨v,ps,t,F⟩:=A.look_ok A0 Tryz.underlying251 (qh _) (plainElem_int Tryz.underlying3 (gO (by omega))) (keyOf_int_mk Tryz.underlying3 (gO (n:=(p:Int)) (by omega)));obtain⟨c,rfl,C,_⟩:=plainElem_int_inv Tryz.underlying3 F;have e:=Jy r s.out (congrArg Prod.fst C);have D:Maps.has u (.int .i64 p)=true:=(r p).1.2 (by rw[s.out];rfl);rw[D,e]at t;exact⟨f,z.cells.1.2.2,t⟩
 clear i d;go_region_held3 (λw'=>w'.cell? ⟨w.heap.size,1,none⟩=some (.int .i64 p)/\w'.cell? ⟨h,2,none⟩=some (.map (some f))) (go_keep) (fail);obtain⟨⟨I,J⟩,N,O⟩:=m.out.facts;have x:Hid (∀j l,Below w.heap.size w ((a.drew.setCell ⟨w.heap.size+1,0,none⟩ j).setCell ⟨w.heap.size+1,1,none⟩ l)):=by
  intro j l;have G:=aY a.drew (w.heap.size+1) 0 j;have H:=aY (a.drew.setCell ⟨w.heap.size+1,0,none⟩ j) (w.heap.size+1) 1 l;have g:=(aR k.out.1 (λb=>b=w.heap.size+1)).trans (G.trans H (λb _ d=>d)) (λb _ d=>d);exact⟨g.os,g.tape,g.output,g.size,λb B=>g.block b B (by omega)⟩
 clear E m k;generalize a.drew=T at*;go_wp2_with fail;exact ao (v:=.agg #[.int .i64 4,.int .i64 q]) (by simp[results,Tryz.results173,go_sem,I,J]) rfl ⟨rfl,x.out _ _⟩
def uJ(base a:Nat)(c:Value)(S:List Wd×cJ)(M:Nat->Prop)(w w':World):Prop:=gR base a c S (λb=>M b\/w.heap.size<=b) w'/\bD M w w'
def vN(f:Wd->List Wd×cJ->Wd×List Wd×cJ)(vs:List Wd)(len base c:Nat)(d:Value)(S:List Wd×cJ)(M:Nat->Prop)(g:Nat)(w a:World)(k:Nat)(wr:World):Prop:=
 wr.ownsRow g 125 2 (.slice (some ⟨g,0,none⟩) len len) len (aP ((fX f (vs.take k) S).1++List.replicate (len-k) (0,0)))/\
 gR base c d (fX f (vs.take k) S).2 (λb=>(M b/\b<w.heap.size)\/a.heap.size<=b) wr/\
 bD (λb=>(M b/\b<w.heap.size)\/b=g) a wr
theorem E9{f:Wd->List Wd×cJ->Wd×List Wd×cJ}{vs:List Wd}{len base g:Nat}{h:Value}{S:List Wd×cJ}{M:Nat->Prop}{w w0:World}(d:gR base g h S M w)(e:w0.ownsRow w.heap.size 125 2 (.slice (some ⟨w.heap.size,0,none⟩) len len) len (madeCells (Value.agg #[.int .i64 0,.int .i64 0]).cells (len*2)).toList)(a:w.grownBy w0 none):vN f vs len base g h S M w.heap.size w w0 0 w0/\Below w.heap.size w w0/\w.heap.size<w0.heap.size:=by
 have c:Below w.heap.size w w0:=⟨a.os,a.tape,a.output,a.size,λb c=>a.block b c (by simp)⟩;refine⟨⟨?_,?_,bD.refl _ _⟩,c,(e.lt _ rfl).2⟩
 ·simp only[List.take_zero,fX,lM,Nat.sub_zero];have i:=tx len;have j:(Value.agg #[.int .i64 0,.int .i64 0]).cells= #[.int .i64 0,.int .i64 0]:=rfl;rw[j,i]at e;exact e
 ·simp only[List.take_zero,fX];exact(d.later c).mono λb d=>ae d
theorem vN.step{f:Wd->List Wd×cJ->Wd×List Wd×cJ}{vs:List Wd}{len base i:Nat}{l:Value}{S:List Wd×cJ}{M:Nat->Prop}{g:Nat}{w d:World}{k:Nat}{wr w1 w2:World}(H:vN f vs len base i l S M g w d k wr)(G:w.heap.size<=g)(I:g<d.heap.size)(K:k<len)(L:vs.length=len){v:Wd}(A:vs[k]?=some v)(m:Below wr.heap.size wr w1)(z:uJ base i l (f v (fX f (vs.take k) S).2).2 (λb=>((M b/\b<w.heap.size)\/d.heap.size<=b)/\b<wr.heap.size) w1 w2):vN f vs len base i l S M g w d (k+1) ((w2.setCell ⟨g,k*2,none⟩ (.int .i64 (f v (fX f (vs.take k) S).2).1.1)).setCell ⟨g,k*2+1,none⟩ (.int .i64 (f v (fX f (vs.take k) S).2).1.2))/\ (w2.cell? ⟨g,k*2,none⟩=some (.int .i64 0)/\w2.cell? ⟨g,k*2+1,none⟩=some (.int .i64 0))/\w2.frozen? ⟨g,k*2,none⟩=false/\w2.frozen? ⟨g,k*2+1,none⟩=false:=by
 obtain⟨o,E,p⟩:=H;obtain⟨u,q⟩:=z;have J:g<wr.heap.size:=(o.lt g rfl).2;have N:=m.size;have O:=p.size;have r:fX f (vs.take (k+1)) S=((fX f (vs.take k) S).1++ [(f v (fX f (vs.take k) S).2).1],(f v (fX f (vs.take k) S).2).2):=by
  rw[dw,A];exact Ft _ _ _ _
 have s:(fX f (vs.take k) S).1.length=k:=by rw[oH,dn];omega
 have h:w2.ownsRow g 125 2 (.slice (some ⟨g,0,none⟩) len len) len (aP ((fX f (vs.take k) S).1++List.replicate (len-k) (0,0))):=by
  refine dJ (dF o m) q λb j=>?_;simp only[Value.ownBlock]at j;obtain rfl:=ap j;omega
 generalize fX f (vs.take k) S=e at*;generalize f v e.2=c at*;have B:(e.1++List.replicate (len-k) (0,0))[k]?=some ((0,0):Wd):=by
  rw[dN (by omega),s,iZ,List.getElem?_replicate];simp;omega
 have C:=aY w2 g (k*2) (.int .i64 c.1.1);have D:=aY (w2.setCell ⟨g,k*2,none⟩ (.int .i64 c.1.1)) g (k*2+1) (.int .i64 c.1.2);have t:=C.trans D (λb _ a=>a);refine⟨⟨?_,?_,?_⟩,ij h k (0,0) B,nI h _,nI h _⟩
 ·rw[r];have n:=iz (iz h (k*2) (.int .i64 c.1.1)) (k*2+1) (.int .i64 c.1.2);rw[pi _ k c.1 (by simp;omega)]at n;have es:(e.1++List.replicate (len-k) ((0,0):Wd)).set k c.1=(e.1++ [c.1])++List.replicate (len-(k+1)) (0,0):=by
   rw[gL _ _ (by omega)];have:len-k=(len-(k+1))+1:=by omega
   rw[this,List.replicate_succ];simp[s]
  rw[es]at n;exact n
 ·rw[r];refine(u.kept t ?_).mono ?_
  ·rintro b (⟨a,_⟩|a) _ j<;>omega
  ·rintro b (⟨a,_⟩|a)
   ·exact a
   ·exact af (by omega)
 ·have x:bD (λb=>(M b/\b<w.heap.size)\/b=g) d w1:=p.trans (aR m (λ_=>False)) (λ_ _ a=>a.elim)
  have y:bD (λb=>(M b/\b<w.heap.size)\/b=g) d w2:=x.trans q (λb F a=>by
   rcases a.1 with a|a
   ·exact ae a
   ·omega)
  exact y.trans t (λb _ a=>af a)
def Ar(f:Wd->List Wd×cJ->Wd×List Wd×cJ)(vs:List Wd)(base c:Nat)(d:Value)(S:List Wd×cJ)(M:Nat->Prop)(g:Nat)(w w':World):Prop:=
 ∃a,gR base c d (fX f vs S).2 a w'/\bD M w w'/\(∀b,a b->M b\/w.heap.size<=b)/\¬a g/\w.heap.size<=g/\w'.ownsRow g 125 2 (.slice (some ⟨g,0,none⟩) vs.length vs.length) vs.length (aP (fX f vs S).1)
theorem vN.done{f:Wd->List Wd×cJ->Wd×List Wd×cJ}{vs:List Wd}{len base h:Nat}{i:Value}{S:List Wd×cJ}{M:Nat->Prop}{g:Nat}{w d wr:World}(H:vN f vs len base h i S M g w d len wr)(m:vs.length=len)(l:w.heap.size<=g)(o:g<d.heap.size)(j:Below w.heap.size w d):Ar f vs base h i S M g w wr:=by
 obtain⟨c,e,k⟩:=H;rw[bk (by omega)]at c e;rw[iZ,lN,ee]at c;subst m;refine⟨_,e,(aR j M).trans k ?_,?_,?_,l,c⟩
 ·rintro b n (a|a)
  ·exact a.1
  ·omega
 ·rintro b (a|a)
  ·exact ae a.1
  ·exact af (by have:=j.size;omega)
 ·rintro (a|a)<;>omega
theorem wu(f:Wd->List Wd×cJ->Wd×List Wd×cJ)(vs:List Wd)(base d:Nat)(i:Value)(S:List Wd×cJ)(M:Nat->Prop)(a:Option Addr)(len pc:Nat)(w:World)(s:Hid (vs.length=len))(aa:len<=100000)(c:Hid (gR base d i S M w))(D:Hid (ew w vs a))(H:Hid (∀b o,a=some ⟨b,o,none⟩->¬M b))(ih:Hid (∀(k:Nat)(v:Wd),vs[k]?=some v->∀(M':Nat->Prop)(w1:World),gR base d i (fX f (vs.take k) S).2 M' w1->bD M w w1->(∀b,M' b->M b\/w.heap.size<=b)-> Calls Tryz.prog 173 #[.pointer (some ⟨d,0,none⟩),.agg #[.int .i64 v.1,.int .i64 v.2]] w1 λe w2=>e=.returned (.agg #[.int .i64 (f v (fX f (vs.take k) S).2).1.1,.int .i64 (f v (fX f (vs.take k) S).2).1.2])/\Hid (uJ base d i (f v (fX f (vs.take k) S).2).2 M' w1 w2))):Calls Tryz.prog 170 #[.pointer (some ⟨d,0,none⟩),.slice a len pc] w λe w'=>∃g,e=.returned (.slice (some ⟨g,0,none⟩) len len)/\Hid (Ar f vs base d i S M g w w'):=by
 obtain⟨Q,E,J,K,L⟩:=bM kj;go_enter Tryz.func170,Tryz.ntmps170;go_wp2_with (at_make;refine jZ _ rfl _ _ 116 rfl w.heap.size 125 Q _ 2 Tryz.underlying116 E J K _ _ _ _ len rfl rfl rfl rfl (by rw[L];omega) (by unfold maxLen;omega) (ag _) ?_;intro p I C;have m:=ai (E9 (f:=f) (vs:=vs) c.out I C);clear I C);clear E J K L;have y:Hid (vN f vs len base d i S M w.heap.size w p 0 p):=m.out.1;have B:w.heap.size<p.heap.size:=m.out.2.2;go_loopw [13] (λj wr=>∃k:Nat,k<=len/\j=.int .i64 k/\Hid (vN f vs len base d i S M w.heap.size w p k wr)) (λj _=>len-(intOf j).toNat)
 case atStart=>exact⟨0,by omega,rfl,y.out⟩
 case round=>
  clear y;obtain⟨k,X,rfl,h⟩:=hrel;by_cases G:k<len
  ·obtain⟨v,l⟩:∃v,vs[k]?=some v:=⟨vs[k]'(by rw[s.out];exact G),aA _⟩;obtain⟨b,o,rfl,A,N⟩:∃b o,a=some ⟨b,o,none⟩/\b<w.heap.size/\∀(j:Nat)(v:Wd),vs[j]?=some v->w.cell? ⟨b,o+j*2,none⟩=some (.int .i64 v.1)/\w.cell? ⟨b,o+j*2+1,none⟩=some (.int .i64 v.2):=by
    rcases D.out with e|e
    ·rw[e]at l;simp at l
    ·exact e
   obtain⟨t,u⟩:=N k v l;have r:wr.heap[b]?=w.heap[b]? :=(h.out.2.2.block b (by omega) (by rintro (c|c);exact H.out b o rfl c.1;omega)).trans (m.out.2.1.block b A);replace t:=(bi r (o+k*2)).trans t;replace u:=(bi r (o+k*2+1)).trans u;have W:w.heap.size<wr.heap.size:=(h.out.1.lt _ rfl).2;have ab:=h.out.2.2.size;have F:bD M w wr:=(aR m.out.2.1 M).trans h.out.2.2 (by rintro b A (c|c);exact c.1;omega)
   obtain⟨n,x⟩:∃n:Wd,Hid (∀w1,Below wr.heap.size wr w1->Calls Tryz.prog 173 #[.pointer (some ⟨d,0,none⟩),.agg #[.int .i64 v.1,.int .i64 v.2]] w1 λe w2=>e=.returned (.agg #[.int .i64 n.1,.int .i64 n.2])/\
       Hid (vN f vs len base d i S M w.heap.size w p (k+1) ((w2.setCell ⟨w.heap.size,k*2,none⟩ (.int .i64 n.1)).setCell ⟨w.heap.size,k*2+1,none⟩ (.int .i64 n.2))/\
        (w2.cell? ⟨w.heap.size,k*2,none⟩=some (.int .i64 0)/\w2.cell? ⟨w.heap.size,k*2+1,none⟩=some (.int .i64 0))/\w2.frozen? ⟨w.heap.size,k*2,none⟩=false/\w2.frozen? ⟨w.heap.size,k*2+1,none⟩=false)):=by
    refine⟨(f v (fX f (vs.take k) S).2).1,λw1 q=>?_⟩;refine(ih.out k v l _ w1 (h.out.2.1.later q) (F.trans (aR q M) (λ_ _ c=>c)) ?_).mono ?_
    ·rintro b ⟨c|c,_⟩
     ·exact ae c.1
     ·exact af (by omega)
    ·rintro e w2 ⟨rfl,P⟩;exact⟨rfl,h.out.step (ag _) B G s.out l q P.out⟩
   clear ih h D N l H r F;have Y:(0:Int)<=(k:Int):=by omega
   have Z:(k:Int)<(len:Int):=by omega
   have V:b<wr.heap.size:=by omega
   go_wp2_with fail;refine(x.out _ ((ah _ _).alloc (ag _) _)).mono ?_;rintro e w2 ⟨rfl,z⟩;obtain⟨⟨R,d1⟩,T,U⟩:=z.out.2;clear x t u;go_wp2_with fail;go_roundw
   case rel=>exact⟨k+1,by omega,by go_num,z.out.1⟩
   case measure=>simp[intOf];omega
  ·obtain rfl:k=len:=by omega
   have O:=ai (h.out.done s.out (ag _) B m.out.2.1);clear h ih;go_wp2_with fail
   go_ret
   exact⟨_,rfl,O.out⟩
theorem Gw{w:World}{base:Nat}{e:TypeId}{s n:Nat}{v:Value}{xs:List Value}{b:Nat}{c tv mv:Value}(f:w.ownsRow base e s v n xs)(h:CB b c tv mv w)(j:e≠253):v.ownBlock≠some b:=λe=>by
 rcases f.2 with⟨rfl,_⟩|⟨d,cap,k,rfl,_,i,_⟩
 ·simp[Value.ownBlock]at e
 ·simp[Value.ownBlock]at e;subst e;have a:w.heap[d]?=_:=h;rw[i]at a;injection a with a;injection a with a g;exact j g
theorem zJ{w:World}{base:Nat}{e:TypeId}{s n L c:Nat}{v:Value}{xs:List Value}{D:DataW Unit}(d:w.ownsRow base e s v n xs)(f:w.ownsMap Tryz.prog 3 (plainElem Tryz.prog 3) c L D):v.ownBlock≠some c:=λa=>by
 rcases d.2 with⟨rfl,_⟩|⟨g,cap,j,rfl,_,h,_⟩
 ·simp[Value.ownBlock]at a
 ·simp only[Value.ownBlock]at a;obtain rfl:=ap a;obtain⟨es,i,b,_⟩:=f;rw[h]at b;cases b
theorem tB{w:World}{L a b:Nat}{D:DataW Unit}{d tv mv:Value}(f:w.ownsMap Tryz.prog 3 (plainElem Tryz.prog 3) a L D)(e:CB b d tv mv w):a≠b:=by
 rintro rfl;obtain⟨es,h,g,_⟩:=f;have c:w.heap[a]?=_:=e;rw[g]at c;cases c
theorem L5(base d:Nat)(n:Value)(S:List Wd×cJ)(M:Nat->Prop)(ps:List Wd)(m pc:Nat)(pa:Option Addr)(w:World)(z:gR base d n S M w)(E:base<=w.heap.size)(C:S.1.length<=100000)(I:ps.length=m)(D:m<=1000)(u:∀w1,bD M w w1->eK w1 ps pa):Calls Tryz.prog 116 #[.pointer (some ⟨d,1,none⟩),.slice pa m pc] w λe w'=>e=.returned (.agg #[.int .i64 4,.int .i64 S.1.length])/\Hid (uJ base d n (S.1++(0,(m:Int))::ps,S.2) M w w'):=by
 obtain⟨q,p,s,a,f,g,A,h,i,B⟩:=z;obtain⟨⟨R,v,T⟩,F⟩:=a.cells;obtain⟨j,l,K⟩:∃j l,q=.slice j S.1.length l:=by
  rcases f.2 with⟨e,y⟩|⟨V,c,U,e,_⟩
  ·exact⟨none,0,by rw[e,y]⟩
  ·exact⟨_,c,e⟩
 subst I;refine(xN base d 1 q j l S.1.length S.1 ps ps.length pc pa w K rfl rfl C D E v (F 1) a.lt (Gw f a (by decide)) f ?_).mono ?_
 ·intro w1 k;refine u w1 (k.mono ?_);rintro b (rfl|e)
  ·exact h
  ·exact i b e
 ·rintro e w' ⟨rfl,r,t⟩;obtain⟨O,P,o,Q⟩:=t.out;refine⟨rfl,⟨r,p,s,(a.set1 r).kept P,?_,?_,A,ae h,?_,ae B⟩,o.mono ?_⟩
  ·have e:(S.1++(0,(ps.length:Int))::ps).length=S.1.length+1+ps.length:=by simp;omega
   rw[e];exact O
  ·have H:=g.lt;have L:=tB g a;have N:=zJ f g;obtain⟨es,x,G,J⟩:=g;refine⟨es,x,(o.block p H ?_).trans G,J⟩;rintro (e|e)
   ·exact L e
   ·exact N e
  ·intro b e;rcases Q b e with e|e
   ·exact ae (i b e)
   ·exact af e
  ·rintro b (rfl|e)
   ·exact h
   ·exact i b e
theorem I3{base e:Nat}{h:Value}{S:List Wd×cJ}{M:Nat->Prop}{w:World}(m:gR base e h S M w)(p q:Nat)(A:p<=100000)(B:q<=100000)(z:S.2.length<=100000):∃a,w.cell? ⟨e,2,none⟩=some (.map (some a))/\∃w4,(Instr.mapUpdate 251 (.map (some a)) (.int .i64 p) (.int .i64 q)).run Tryz.prog w=.ok () w4/\gR base e h (S.1,(p,q)::S.2) M w4/\bD (λb=>b=a) w w4/\M a/\a<w.heap.size/\w4.cell? ⟨e,2,none⟩=some (.map (some a)):=by
 obtain⟨x,a,y,d,i,f,o,r,s,j⟩:=m;obtain⟨w4,v,u,t⟩:=f.update A0 Tryz.underlying251 (by unfold maxLen;omega) (keyOf_int_mk Tryz.underlying3 (gO (n:=(p:Int)) (by omega))) (plainElem_int Tryz.underlying3 (gO (n:=(q:Int)) (by omega)));have k:=A3 t;have g:bD (λb=>b=a) w w4:=k.mono λb c=>(ap c).symm;refine⟨a,d.cells.1.2.2,w4,v,⟨x,a,_,d.kept (g.block e d.lt (λc=>tB f d c.symm)),dJ i g ?_,u,Hk f o p q,r,s,j⟩,g,j,f.lt,(d.kept (g.block e d.lt (λc=>tB f d c.symm))).cells.1.2.2⟩;intro b c l;subst l;exact zJ i f c
theorem AL(w:World)(a b:Int):(Instr.field 125 (.agg #[.int .i64 a,.int .i64 b]) 1).run Tryz.prog w=.ok (.int .i64 b) w:=by kernel_rfl
theorem I0(base a:Nat)(I:Value)(S:List Wd×cJ)(M:Nat->Prop)(p q h L i n:Nat)(w:World)(x:World->Prop)(J:Hid (gR base a I S M w))(V:I=.slice (some ⟨h,0,none⟩) L i)(X:Hid (look S.2 p=none))(aA:p<=100000)(A:Hid (∀b,Below w.heap.size w b->w.heap.size+2<=b.heap.size->Calls Tryz.prog 139 #[.slice (some ⟨h,0,none⟩) L i,.int .i64 p] b λe w'=>w'=b/\∃o pc,e=.returned (.slice (some ⟨h,o,none⟩) n pc)/\ Hid (Calls Tryz.prog 170 #[.pointer (some ⟨a,0,none⟩),.slice (some ⟨h,o,none⟩) n pc] b λe w2=>∃g,e=.returned (.slice (some ⟨g,0,none⟩) n n)/\ Hid ((∀j,w2.cell? ⟨w.heap.size,j,none⟩=b.cell? ⟨w.heap.size,j,none⟩)/\w2.cell? ⟨a,0,none⟩=some (.slice (some ⟨h,0,none⟩) L i)/\ Calls Tryz.prog 116 #[.pointer (some ⟨a,1,none⟩),.slice (some ⟨g,0,none⟩) n n] w2 λe l=>e=.returned (.agg #[.int .i64 4,.int .i64 q])/\ Hid ((∀j,l.cell? ⟨w.heap.size,j,none⟩=b.cell? ⟨w.heap.size,j,none⟩)/\l.cell? ⟨a,0,none⟩=some (.slice (some ⟨h,0,none⟩) L i)/\ ∃f w4,l.cell? ⟨a,2,none⟩=some (.map (some f))/\(Instr.mapUpdate 251 (.map (some f)) (.int .i64 p) (.int .i64 q)).run Tryz.prog l.drew=.ok () w4/\(∀j,w4.cell? ⟨w.heap.size,j,none⟩=b.cell? ⟨w.heap.size,j,none⟩)/\w4.cell? ⟨a,2,none⟩=some (.map (some f))/\ (xL (w.heap.size+1) b->xL (w.heap.size+1) w4)/\∀v0 v1,x ((w4.setCell ⟨w.heap.size+1,0,none⟩ v0).setCell ⟨w.heap.size+1,1,none⟩ v1)))))):Calls Tryz.prog 173 #[.pointer (some ⟨a,0,none⟩),.agg #[.int .i64 4,.int .i64 p]] w λe w'=>e=.returned (.agg #[.int .i64 4,.int .i64 q])/\x w':=by
 subst V;go_enter Tryz.func173,Tryz.ntmps173;go_wp2_with fail;generalize u:(w.alloc (Obj.cells #[Value.int IntKind.i64 4,Value.int IntKind.i64 p] 125)).alloc (Obj.cells #[.int .i64 0,.int .i64 0] 125)=d;have m:Hid (Below w.heap.size w d.drew/\d.drew.heap.size=w.heap.size+2):=by
  subst u;exact⟨(((ah _ _).alloc (ag _) _).alloc (by simp) _).drew,by simp[World.drew]⟩
 have H:d.cell? ⟨w.heap.size,1,none⟩=some (.int .i64 p):=by subst u;simp[go_sem]
 have D:Hid (xL (w.heap.size+1) d.drew):=by
  subst u;have:=ax (w.alloc (Obj.cells #[Value.int IntKind.i64 4,Value.int IntKind.i64 p] 125)) (Obj.cells #[.int .i64 0,.int .i64 0] 125);have es:∀o,(w.alloc o).heap.size=w.heap.size+1:=λo=>by simp
  rw[es]at this;exact this
 obtain⟨f,G,F,Q,Y⟩:∃f,∃G:Int,d.cell? ⟨a,0,none⟩=some (.slice (some ⟨h,0,none⟩) L i)/\d.cell? ⟨a,2,none⟩=some (.map (some f))/\(Instr.lookup 251 (.map (some f)) (.int .i64 p) true).run Tryz.prog d.drew=.ok (.tuple #[.int .i64 G,.bool false]) d.drew:=by
  obtain⟨aB,f,y,K,ay,R,T,_⟩:=J.out.later m.out.1;obtain⟨v,ps,N,aa⟩:=R.look_ok A0 Tryz.underlying251 (qh _) (plainElem_int Tryz.underlying3 (gO (by omega))) (keyOf_int_mk Tryz.underlying3 (gO (n:=(p:Int)) (by omega)));obtain⟨c,rfl,az,_⟩:=plainElem_int_inv Tryz.underlying3 aa;have W:Maps.has y (.int .i64 p)=false:=by
   cases hx:Maps.has y (.int .i64 p)
   ·rfl
   ·have:=(T p).1.1 hx;rw[X.out]at this;simp at this
  rw[W]at N;exact⟨f,c,K.cells.1.1,K.cells.1.2.2,N⟩
 clear u J;go_region_held3 (λw'=>w'.cell? ⟨w.heap.size,1,none⟩=some (.int .i64 p)/\w'.cell? ⟨a,2,none⟩=some (.map (some f))) (go_keep) (fail);have t:d.drew.cell? ⟨w.heap.size,1,none⟩=some (.int .i64 p):=H;have P:d.drew.cell? ⟨a,0,none⟩=some (.slice (some ⟨h,0,none⟩) L i):=F;clear Y H F Q;generalize d.drew=b at*;have C:=ai (A.out b.drew m.out.1.drew (by have:=m.out.2;show w.heap.size+2<=b.heap.size;omega));clear A;have U:=AL;go_wp2_with fail
 go_region_held3 (λw'=>w'.cell? ⟨w.heap.size,1,none⟩=some (.int .i64 p)/\w'.cell? ⟨a,0,none⟩=some (.slice (some ⟨h,0,none⟩) L i)) (go_keep) ((first
  | (go_at_call 139;refine C.out.mono ?_;rintro e w2 ⟨rfl,o,pc,rfl,z⟩;clear C)
  | (go_at_call 170;refine z.out.mono ?_;rintro e w2 ⟨g,rfl,r⟩;have ap:=(r.out.1 1).trans t;have aq:=r.out.2.1;clear z)
  | (go_at_call 116;refine r.out.2.2.mono ?_;rintro e l ⟨rfl,s⟩;have y1:=(s.out.1 1).trans t;have y2:=s.out.2.1;clear r)))
 obtain⟨k,w4,an,Z,E,au,B,O⟩:∃k w4,l.cell? ⟨a,2,none⟩=some (.map (some k))/\(Instr.mapUpdate 251 (.map (some k)) (.int .i64 p) (.int .i64 q)).run Tryz.prog l.drew=.ok () w4/\Hid (∀j,w4.cell? ⟨w.heap.size,j,none⟩=b.drew.cell? ⟨w.heap.size,j,none⟩)/\w4.cell? ⟨a,2,none⟩=some (.map (some k))/\Hid (xL (w.heap.size+1) w4)/\Hid (∀v0 v1,x ((w4.setCell ⟨w.heap.size+1,0,none⟩ v0).setCell ⟨w.heap.size+1,1,none⟩ v1)):=by
  obtain⟨k,w4,ab,ad,ae,af,aj,ak⟩:=s.out.2.2;exact⟨k,w4,ab,ad,ae,af,aj D.out,ak⟩
 have ar:=(E.out 1).trans t;obtain⟨⟨al,am⟩,av,aw⟩:=B.out.facts;clear s E B D m ap aq y2 P t U;go_wp2_with fail;go_region_held3 (λw'=>w'.cell? ⟨w.heap.size,1,none⟩=some (.int .i64 p)/\w'.cell? ⟨a,2,none⟩=some (.map (some k))) (go_keep) (fail);clear Z an y1 ar au;go_wp2_with fail;exact ao (v:=.agg #[.int .i64 4,.int .i64 q]) (by simp[results,Tryz.results173,go_sem,al,am]) rfl ⟨rfl,O.out _ _⟩
def bU(ws:List Wd)(p n:Nat):List Wd:=(ws.drop (p+1)).take n
theorem Bn{ws:List Wd}{p n i:Nat}(a:i<n):(bU ws p n)[i]?=ws[p+1+i]? :=by
 unfold bU;rw[qZ a,jO]
theorem kr{ws:List Wd}{p n:Nat}(a:p+1+n<=ws.length):(bU ws p n).length=n:=by
 unfold bU;rw[dn,eG];omega
def fN(ws:List Wd)(nm:List ByteArray)(n:Nat)(l:List Wd)(p:List (Tm n)):Prop:=l.length=p.length/\∀(i:Nat)(v:Wd)(y:Tm n),l[i]?=some v->p[i]?=some y->dA ws nm n y v
theorem sU{ws:List Wd}{n:Nat}{v:Wd}{S:List Wd×cJ}(a:v.1≠4):je ws n v S=(v,S):=by
 cases n with
 | zero=>rfl
 | succ n=>simp[je,a]
theorem Cn{ws:List Wd}{n p q:Nat}{S:List Wd×cJ}(a:look S.2 p=some q):je ws (n+1) (4,(p:Int)) S=((4,(q:Int)),S):=by
 simp[je,a]
theorem wv{ws:List Wd}{n p m:Nat}{S:List Wd×cJ}(a:look S.2 p=none)(b:ws[p]?=some (0,(m:Int))):je ws (n+1) (4,(p:Int)) S= ((4,((fX (je ws n) (bU ws p m) S).2.1.length:Int)),(fX (je ws n) (bU ws p m) S).2.1++(0,(m:Int))::(fX (je ws n) (bU ws p m) S).1,(p,(fX (je ws n) (bU ws p m) S).2.1.length)::(fX (je ws n) (bU ws p m) S).2.2):=by
 simp[je,a,b,bU]
theorem nw{ws:List Wd}{nm:List ByteArray}{n:Nat}(ih:∀(x:Tm n)(v:Wd)(S:List Wd×cJ),dA ws nm n x v->((je ws n v S).2.1.length:Int)<=S.1.length+sz n x/\(je ws n v S).2.2.length<=S.2.length+(aq n x).length):(l:List Wd)->(p:List (Tm n))->(S:List Wd×cJ)->fN ws nm n l p->((fX (je ws n) l S).2.1.length:Int)+p.length<=S.1.length+(p.map λy=>1+sz n y).sum/\(fX (je ws n) l S).2.2.length<=S.2.length+(p.flatMap λy=>aq n y).length
 | [],[],S,_=>by simp[fX]
 | [],_::_,_,h=>by have:=h.1;simp at this
 | _::_,[],_,h=>by have:=h.1;simp at this
 | v::l,y::p,S,h=>by
  obtain⟨e,f⟩:=ih y v S (h.2 0 v y rfl rfl);obtain⟨g,j⟩:=nw ih l p (je ws n v S).2 ⟨by have:=h.1;simpa using this,λi c d a b=>h.2 (i+1) c d (by simpa using a) (by simpa using b)⟩;simp only[fX,aH,bt,bj,aX,aW];exact⟨by omega,by omega⟩
theorem iN{ws:List Wd}{nm:List ByteArray}{n:Nat}{x:Tm (n+1)}{v:Wd}(i:dA ws nm (n+1) x v)(j:x.1.1=4):∃p:Nat,v=(4,(p:Int))/\ws[p]?=some (0,(x.2.2.length:Int))/\p+1+x.2.2.length<=ws.length/\fN ws nm n (bU ws p x.2.2.length) x.2.2:=by
 obtain⟨p,d,e,a,f⟩:=i.2.1 j;refine⟨p,d,e,a,kr a,λk o l b c=>?_⟩;obtain⟨m,g,h⟩:=f k l c;rw[Bn (aK.1 c).1,g]at b;obtain rfl:=ap b;exact h
theorem g9{ws:List Wd}{nm:List ByteArray}{n:Nat}{x:Tm (n+1)}{v:Wd}(a:dA ws nm (n+1) x v)(c:x.1.1≠4):v.1≠4:=by
 by_cases b:x.1.1=2
 ·obtain⟨d,rfl,_⟩:=a.1 b;simp
 ·rw[a.2.2 b c];exact c
theorem qz{ws:List Wd}{nm:List ByteArray}:(n:Nat)->(x:Tm n)->(v:Wd)->(S:List Wd×cJ)->dA ws nm n x v->((je ws n v S).2.1.length:Int)<=S.1.length+sz n x/\(je ws n v S).2.2.length<=S.2.length+(aq n x).length
 | 0,_,_,_,h=>h.elim
 | n+1,x,v,S,h=>by
  have k:=(eC (n+1) x).1;by_cases c:x.1.1=4
  ·obtain⟨p,rfl,g,f,i⟩:=iN h c;cases hk:look S.2 p with
   | some q=>
    rw[Cn hk];exact⟨by simp only;omega,by simp only;omega⟩
   | none=>
    rw[wv hk g];obtain⟨a,b⟩:=nw (λx v S d=>qz n x v S d) (bU ws p x.2.2.length) x.2.2 S i;have e:=oH (je ws n) (bU ws p x.2.2.length) S;rw[kr f]at e;have j:(aq (n+1) x).length=1+(x.2.2.flatMap λy=>aq n y).length:=by simp[aq];omega
    simp only[aX,aW,e,sz,if_pos c,j];exact⟨by omega,by omega⟩
  ·rw[sU (g9 h c)];exact⟨by simp only;omega,by simp only;omega⟩
def J5(ws:List Wd)(nm:List ByteArray)(n:Nat):Prop:=∀(x:Tm n)(v:Wd)(base c d:Nat)(a:Value)(S:List Wd×cJ)(M:Nat->Prop)(w:World),gR base c a S M w->w.ownsRow d 125 2 a ws.length (aP ws)->(∀b,a.ownBlock=some b->¬M b)->base<=w.heap.size->dA ws nm n x v->aB ⟨n,x⟩->ws.length<=100000->(S.1.length:Int)+sz n x<=90000->S.2.length+(aq n x).length<=90000->
 Calls Tryz.prog 173 #[.pointer (some ⟨c,0,none⟩),EU v] w λe w'=>e=.returned (EU (je ws n v S).1)/\Hid (uJ base c a (je ws n v S).2 M w w')
theorem Jr(n:Nat)(p:List (Tm n))(k:Nat)(x:Tm n)(d:p[k]?=some x):((p.take k).map λy=>1+sz n y).sum+(1+sz n x)<=(p.map λy=>1+sz n y).sum:=by
 obtain⟨c,rfl⟩:=aK.1 d;have a:p=p.take k++p[k]::p.drop (k+1):=by
  rw[<-eF c,im]
 have b:∀l:List (Tm n),0<=(l.map λy=>1+sz n y).sum:=by
  intro l
  induction l with
  | nil=>simp
  | cons y l ih=>
   have:=(eC n y).1;simp only[aH,bt];omega
 have e:=b (p.drop (k+1))
 conv=>rhs;rw[a]
 simp only[ft,List.sum_append,aH,bt];omega
theorem fN.take{ws:List Wd}{nm:List ByteArray}{n:Nat}{l:List Wd}{p:List (Tm n)}(c:fN ws nm n l p)(k:Nat):fN ws nm n (l.take k) (p.take k):=by
 refine⟨by simp[c.1],λe f g a b=>?_⟩;rw[jP]at a b;split at a
 ·rename_i d;rw[if_pos d]at b;exact c.2 e f g a b
 ·cases a
theorem rk(ws:List Wd)(nm:List ByteArray)(n:Nat)(ih:J5 ws nm n)(vs:List Wd)(p:List (Tm n))(base d l:Nat)(c:Value)(S:List Wd×cJ)(M:Nat->Prop)(a:Option Addr)(pc:Nat)(w:World)(u:gR base d c S M w)(r:w.ownsRow l 125 2 c ws.length (aP ws))(m:∀b,c.ownBlock=some b->¬M b)(I:base<=w.heap.size)(j:fN ws nm n vs p)(E:∀y∈p,aB ⟨n,y⟩)(F:ws.length<=100000)(C:vs.length<=100000)(L:(S.1.length:Int)+(p.map λy=>1+sz n y).sum<=90000)(J:S.2.length+(p.flatMap λy=>aq n y).length<=90000)(A:ew w vs a)(D:∀b o,a=some ⟨b,o,none⟩->¬M b):Calls Tryz.prog 170 #[.pointer (some ⟨d,0,none⟩),.slice a vs.length pc] w λe w'=>∃g,e=.returned (.slice (some ⟨g,0,none⟩) vs.length vs.length)/\Hid (Ar (je ws n) vs base d c S M g w w'):=by
 refine wu (je ws n) vs base d c S M a vs.length pc w rfl C u A D ?_;intro k i s t G x q v;have B:=(aK.1 s).1;obtain⟨y,h⟩:∃y,p[k]?=some y:=⟨p[k]'(by rw[<-j.1];exact B),aA _⟩;obtain⟨P,Q⟩:=nw (λH i S z=>qz n H i S z) (vs.take k) (p.take k) S (j.take k);have N:=Jr n p k y h;have O:=yP n p k y h;have K:=q.size;refine ih y i base d l c _ t G x (dJ r q λb e=>m b e) ?_ (by omega) (j.2 k i y s h) (E y (ay h)) F (by omega) (by omega);intro b e f;rcases v b f with f|f
 ·exact m b e f
 ·have:=(r.lt b e).2;omega
theorem sQ{base b:Nat}{c:Value}{S:List Wd×cJ}{M:Nat->Prop}{w w':World}(a:gR base b c S M w)(d:Below w.heap.size w w'):uJ base b c S M w w':=
 ⟨(a.later d).mono λ_ a=>ae a.1,aR d M⟩
theorem I4(ws:List Wd)(nm:List ByteArray)(n:Nat)(ih:J5 ws nm n)(ps:List (Tm n))(p:Nat)(base i t:Nat)(m:Value)(S:List Wd×cJ)(M:Nat->Prop)(w:World)(c:gR base i m S M w)(F:w.ownsRow t 125 2 m ws.length (aP ws))(P:∀b,m.ownBlock=some b->¬M b)(aQ:base<=w.heap.size)(az:ws[p]?=some (0,(ps.length:Int)))(R:p+1+ps.length<=ws.length)(U:fN ws nm n (bU ws p ps.length) ps)(aA:∀y∈ps,aB ⟨n,y⟩)(aN:ps.length<=8)(V:ws.length<=100000)(aD:(S.1.length:Int)+(ps.map λy=>1+sz n y).sum<=90000)(ay:S.2.length+(ps.flatMap λy=>aq n y).length<=90000)(aw:look S.2 p=none):Calls Tryz.prog 173 #[.pointer (some ⟨i,0,none⟩),EU (4,(p:Int))] w λe w'=>e=.returned (EU (4,((fX (je ws n) (bU ws p ps.length) S).2.1.length:Int)))/\ Hid (uJ base i m ((fX (je ws n) (bU ws p ps.length) S).2.1++(0,(ps.length:Int))::(fX (je ws n) (bU ws p ps.length) S).1,(p,(fX (je ws n) (bU ws p ps.length) S).2.1.length)::(fX (je ws n) (bU ws p ps.length) S).2.2) M w w'):=by
 obtain⟨d,u,Q,_,_⟩:=F.form (by omega);have E:=kr R;obtain⟨aX,aZ⟩:=nw (λaJ aG S ao=>qz n aJ aG S ao) (bU ws p ps.length) ps S U;refine I0 base i m S M p _ d ws.length u ps.length w _ c Q aw (by omega) ?_;intro Y j aO;subst Q;have aS:=(F.lt d rfl).2;have T:Y.ownsRow t 125 2 (.slice (some ⟨d,0,none⟩) ws.length u) ws.length (aP ws):=dF F j;refine(vq t d ws.length u p ps.length ws Y V T az R).mono ?_;rintro e w' ⟨rfl,pa,pc,rfl,_,aC,o,rfl⟩;refine⟨rfl,o,pc,rfl,?_⟩;have ar:ew w' (bU ws p ps.length) (some ⟨d,o,none⟩):=Aj aC (by have:=j.size;omega);have O:=rk ws nm n ih (bU ws p ps.length) ps base i t (.slice (some ⟨d,0,none⟩) ws.length u) S _ (some ⟨d,o,none⟩) pc w' (c.later j) T (λb e a=>P b e a.1) (by have:=j.size;omega) U aA V (by omega) aD ay ar (λb aW e a=>P b (by injection e with e;injection e with e;subst e;rfl) a.1);rw[E]at O;refine O.mono ?_;rintro e aI ⟨g,rfl,ab⟩;obtain⟨A,G,s,ad,ai,aK,H⟩:=ab.out;rw[E]at H;have v:∀b,A b->(M b/\b<w.heap.size)\/w'.heap.size<=b:=ad;have aT:=s.size;refine⟨g,rfl,λq=>bi (s.block _ (by omega) (λa=>by omega)) q,?_,?_⟩
 ·obtain⟨aF,x,Z,r,_⟩:=G;exact r.cells.1.1
 refine(L5 base i _ _ A (fX (je ws n) (bU ws p ps.length) S).1 ps.length ps.length (some ⟨g,0,none⟩) aI G (by have:=j.size;omega) (by omega) (by rw[oH];exact E) (by omega) ?_).mono ?_
 ·intro a0 av;exact af ⟨_,rfl,(dJ H av (λb e=>by simp only[Value.ownBlock]at e;obtain rfl:=ap e;exact ai)).cells (g:=g) rfl⟩
 rintro e l ⟨rfl,aa⟩;obtain⟨I,B⟩:=aa.out;have aU:=B.size;have D:∀b,w.heap.size<=b->b<w.heap.size+2->¬A b:=λb f h a=>by
  rcases v b a with k|k<;>omega
 have L:∀b,w.heap.size<=b->b<w.heap.size+2->l.heap[b]?=w'.heap[b]? :=λb f h=>(B.block b (by omega) (D b f h)).trans (s.block b (by omega) (λa=>by omega));refine⟨rfl,λq=>bi (L _ (ag _) (by omega)) q,?_,?_⟩
 ·obtain⟨aF,x,Z,r,_⟩:=I;exact r.cells.1.1
 have bd:Below l.heap.size l l.drew:=(ah _ _).drew;have aj:=I.kept (aR bd (λ_=>False)) (λ_ _ _ c=>c);obtain⟨x,ak,z,al,am,C,J,aL,an⟩:=I3 aj p (fX (je ws n) (bU ws p ps.length) S).2.1.length (by omega) (by omega) (by simp only;omega);have ax:∀b,w.heap.size<=b->b<w.heap.size+2->b≠x:=λb f h e=>by
  subst e;rcases J with k|k
  ·exact D _ f h k
  ·omega
 have aV:=C.size;have aM:l.drew.heap.size=l.heap.size:=rfl;have N:∀b,w.heap.size<=b->b<w.heap.size+2->z.heap[b]?=w'.heap[b]? :=λb f h=>(C.block b (by omega) (ax b f h)).trans (L b f h);refine⟨x,z,ak,al,λq=>bi (N _ (ag _) (by omega)) q,an,λau=>(N _ (by omega) (by omega)).trans au,λX aH=>?_⟩;have r:=aY z (w.heap.size+1) 0 X;have aE:=aY (z.setCell ⟨w.heap.size+1,0,none⟩ X) (w.heap.size+1) 1 aH;have W:=r.trans aE (λb _ c=>c);refine⟨(am.kept W ?_).mono ?_,?_⟩
 ·rintro b (a|a) _ rfl
  ·exact D _ (by omega) (by omega) a
  ·omega
 ·rintro b (a|a)
  ·rcases v b a with k|k
   ·exact ae k.1
   ·exact af (by omega)
  ·exact af (by omega)
 ·refine(((((aR j M).trans s ?_).trans B ?_).trans (aR bd (λ_=>False)) ?_).trans C ?_).trans W ?_
  ·exact λb _ a=>a.1
  ·intro b K a;rcases v b a with k|k
   ·exact k.1
   ·omega
  ·exact λ_ _ c=>c.elim
  ·rintro b K rfl;rcases J with k|k
   ·rcases v _ k with k|k
    ·exact k.1
    ·omega
   ·omega
  ·intro b K c;omega
theorem IZ(ws:List Wd)(nm:List ByteArray)(n:Nat):J5 ws nm n:=by
 induction n with
 | zero=>intro a o i d p j c h g _ _ _ _ f;exact f.elim
 | succ n ih=>
  intro a o i d p j c h g e z v u f s B G F;have w:=s (bm n a) (by simp[aq,bm]);have y:a.2.2.length<=8:=lp (bm n a) w;have H:(aq (n+1) a).length=1+(a.2.2.flatMap λb=>aq n b).length:=by simp[aq];omega
  by_cases k:a.1.1=4
  ·obtain⟨m,rfl,r,x,A⟩:=iN f k;cases hk:look c.2 m with
   | some D=>
    rw[Cn hk];refine(I1 i d j c h m D g e hk (by omega)).mono ?_;rintro q E ⟨rfl,l⟩;exact⟨rfl,sQ e l⟩
   | none=>
    rw[wv hk r];have q:sz (n+1) a=1+(a.2.2.map λb=>1+sz n b).sum:=by simp only[sz,if_pos k]
    exact I4 ws nm n ih a.2.2 m i d p j c h g e z v u r x A (λb C=>aU n a b s C) y B (by omega) (by omega) hk
  ·have t:=g9 f k;rw[sU t];refine(Gi d o.1 o.2 g t).mono ?_;rintro q E ⟨rfl,l⟩;exact⟨rfl,sQ e l⟩
theorem IA(w:World)(a:Value):gR w.heap.size (w.heap.size+1) a ([],[]) (λb=>w.heap.size<=b) ((w.alloc (.map #[] 0)).alloc (.cells #[a,.slice none 0 0,.map (some w.heap.size)] 253)):=by
 have e:=oc w Tryz.prog 3 (plainElem (H:=Unit) Tryz.prog 3);have es:∀o,(w.alloc o).heap.size=w.heap.size+1:=λo=>by simp
 have c:=ax (w.alloc (.map #[] 0)) (.cells #[a,.slice none 0 0,.map (some w.heap.size)] 253);rw[es]at c;exact⟨.slice none 0 0,w.heap.size,.map [],c,eg _ _ _ _,e.alloc _,Hj,by omega,λb d=>by simp[Value.ownBlock]at d,ag _⟩
def j0(R:List Wd×List Wd×cJ)(len g:Nat)(tv:Value)(w w':World):Prop:=
 Below w.heap.size w w'/\w'.ownsRow w.heap.size 125 2 tv R.2.1.length (aP R.2.1)/\w'.ownsRow g 125 2 (.slice (some ⟨g,0,none⟩) len len) len (aP R.1)/\w.heap.size<=g/\tv.ownBlock≠some g
theorem xd(R:List Wd×List Wd×cJ)(c:Value)(d:Option Addr)(L f:Nat)(a:Option Addr)(len pc:Nat)(w:World)(i:c=.slice d L f)(b:Hid (Calls Tryz.prog 170 #[.pointer (some ⟨w.heap.size+1,0,none⟩),.slice a len pc] ((w.alloc (.map #[] 0)).alloc (.cells #[.slice d L f,.slice none 0 0,.map (some w.heap.size)] 253)) λe w'=>∃g tv,e=.returned (.slice (some ⟨g,0,none⟩) len len)/\w'.cell? ⟨w.heap.size+1,1,none⟩=some tv/\Hid (j0 R len g tv w w'))):Calls Tryz.prog 163 #[c,.slice a len pc] w λe w'=>∃g tv,e=.returned (.tuple #[tv,.slice (some ⟨g,0,none⟩) len len])/\Hid (j0 R len g tv w w'):=by
 subst i;have j:= @jY Tryz.prog;go_enter Tryz.func163,Tryz.ntmps163;go_wp2_with fail;refine b.out.mono ?_;rintro e l ⟨g,tv,rfl,k,h⟩;clear b j;go_wp2_with fail;exact ao (v:=.tuple #[tv,.slice (some ⟨g,0,none⟩) len len]) (by simp[results,Tryz.results163,go_sem]) rfl ⟨g,tv,rfl,h⟩
theorem zD(ws:List Wd)(nm:List ByteArray)(n:Nat)(vs:List Wd)(p:List (Tm n))(q:Nat)(d:Value)(a:Option Addr)(pc:Nat)(w:World)(k:w.ownsRow q 125 2 d ws.length (aP ws))(H:fN ws nm n vs p)(G:∀y∈p,aB ⟨n,y⟩)(I:ws.length<=100000)(C:vs.length<=100000)(J:(p.map λy=>1+sz n y).sum<=90000)(E:(p.flatMap λy=>aq n y).length<=90000)(h:ew w vs a)(F:∀b o,a=some ⟨b,o,none⟩->b<w.heap.size):Calls Tryz.prog 163 #[d,.slice a vs.length pc] w λe w'=>∃g tv,e=.returned (.tuple #[tv,.slice (some ⟨g,0,none⟩) vs.length vs.length])/\Hid (j0 (fX (je ws n) vs ([],[])) vs.length g tv w w'):=by
 obtain⟨l,m,r⟩:∃l m,d=.slice l ws.length m:=by
  rcases k.2 with⟨e,z⟩|⟨g,c,S,e,_⟩
  ·exact⟨none,0,by rw[e,z]⟩
  ·exact⟨_,c,e⟩
 refine xd _ d l ws.length m a vs.length pc w r ?_;have f:Below w.heap.size w ((w.alloc (.map #[] 0)).alloc (.cells #[d,.slice none 0 0,.map (some w.heap.size)] 253)):=((ah _ _).alloc (ag _) _).alloc (by simp) _;have A:=IA w d;have T:((w.alloc (.map #[] 0)).alloc (.cells #[d,.slice none 0 0,.map (some w.heap.size)] 253)).heap.size=w.heap.size+2:=by simp
 rw[<-r];generalize (w.alloc (.map #[] 0)).alloc (.cells #[d,.slice none 0 0,.map (some w.heap.size)] 253)=v at*;have B:ew v vs a:=by
  rcases h with h|⟨b,o,e,j,h⟩
  ·exact ae h
  ·exact af ⟨b,o,e,by omega,λt u s=>⟨(aj f b _ j).trans (h t u s).1,(aj f b _ j).trans (h t u s).2⟩⟩
 refine(rk ws nm n (IZ ws nm n) vs p w.heap.size (w.heap.size+1) q d ([],[]) _ a pc v A (dF k f) (λb e D=>by have:=(k.lt b e).2;omega) (by omega) H G I C (by simpa using J) (by simpa using E) B ?_).mono ?_
 ·intro b o e D;have:=F b o e;omega
 ·rintro e w' ⟨g,rfl,x⟩;obtain⟨R,N,i,Y,O,Z,P⟩:=x.out;obtain⟨tv,aa,Q,K,L,U,V,W,M,X⟩:=N;refine⟨g,tv,rfl,K.cells.1.2.1,⟨?_,?_,?_,?_,?_⟩,L,P,by omega,λe=>O (M g e)⟩
  ·exact i.os.trans f.os
  ·exact i.tape.trans f.tape
  ·exact i.output.trans f.output
  ·have:=i.size;omega
  ·intro b j;exact(i.block b (by omega) (by omega)).trans (f.block b j)
theorem ym{base:Nat}{c:bW}{room:Int}{ws:List Wd}{nm:List ByteArray}{M:Nat->Prop}{R:List Wd×List Wd×cJ}{len g:Nat}{tv:Value}{w w1 w2:World}(n:dy base c room ws nm M w)(i:Below w.heap.size w w1)(r:j0 R len g tv w1 w2)(z:base<=w.heap.size):kZ base c room R.2.1 nm M w (w2.setCell ⟨c.b,c.o+1,none⟩ tv):=by
 obtain⟨v,l,A,B,C⟩:=r;have s:=i.size;have j:=i.trans (v.mono s);obtain⟨D,t,u,e,x,f,h,y,p,q⟩:=n.later j;have k:=aY w2 c.b (c.o+1) tv;have m:∀b,tv.ownBlock=some b->w1.heap.size<=b:=λb a=>(l.lt b a).1;refine⟨⟨tv,t,u,e.set1 tv,dJ (pT l (by omega)) k (λb a d=>?_),f.kept k (λb a d=>?_) (λb a d=>?_),ae h.1,λb a=>af (by have:=m b a;omega),λb a=>ae (p b a).1,λb a=>ae (q b a).1⟩,(aR j M).trans k ?_⟩
 ·subst d;have:=m _ a;have:=h.2;omega
 ·subst d;exact mh f.1 e (by decide) a
 ·subst d;exact sg f e a
 ·rintro b _ rfl;exact h.1
theorem wm(R:List Wd×List Wd×cJ)(d:bW)(p:Option Addr)(L r:Nat)(a:Option Addr)(len pc:Nat)(w:World)(k:d.b<w.heap.size)(i:w.cell? ⟨d.b,d.o+1,none⟩=some (.slice p L r))(j:w.frozen? ⟨d.b,d.o+1,none⟩=false)(l:Hid (Calls Tryz.prog 162 #[.pointer (some ⟨d.b,d.o,none⟩),.slice a len pc] w λe w'=>e=.returned (.bool true)/\Below w.heap.size w w'))(m:Hid (∀w1,Below w.heap.size w w1->Calls Tryz.prog 163 #[.slice p L r,.slice a len pc] w1 λe w'=>∃g tv,e=.returned (.tuple #[tv,.slice (some ⟨g,0,none⟩) len len])/\Hid (j0 R len g tv w1 w'))):Calls Tryz.prog 151 #[.pointer (some ⟨d.b,d.o,none⟩),.slice a len pc] w λe w'=>∃g tv w1 w2,e=.returned (.tuple #[.slice (some ⟨g,0,none⟩) len len,.int .i64 0])/\w'=w2.setCell ⟨d.b,d.o+1,none⟩ tv/\Hid (Below w.heap.size w w1/\j0 R len g tv w1 w2):=by
 go_enter Tryz.func151,Tryz.ntmps151;go_wp2_with fail;refine l.out.mono ?_;rintro e w1 ⟨rfl,f⟩;have HB:=ai f;replace i:=(aj f d.b (d.o+1) k).trans i;replace j:=(fP f d.b (d.o+1) k).trans j;have n:d.b<w1.heap.size:=aL k f.size;clear f l;go_wp2_with fail;refine(m.out w1 HB.out).mono ?_;rintro e w2 ⟨g,tv,rfl,h⟩;obtain⟨q,s,rfl⟩:∃q s,tv=.slice q R.2.1.length s:=by
  rcases h.out.2.1.2 with⟨e,t⟩|⟨g,c,u,e,_⟩
  ·exact⟨none,0,by rw[e,t]⟩
  ·exact⟨_,c,e⟩
 replace i:=(aj h.out.1 d.b (d.o+1) n).trans i;replace j:=(fP h.out.1 d.b (d.o+1) n).trans j;clear m;go_wp2_with fail
 go_ret2
 exact⟨g,_,w1,w2,rfl,rfl,HB.out,h.out⟩
end Go.Proofs.YtnidfceinoiboaaGreat
