/- What is proved here: plain facts and contracts that the claimed theorem stands on. No condition but those that each names. -/
import Derived.Test.YtckamaoibonjcaaGreatG17
namespace Go.Proofs.YtckamaoibonjcaaGreat
open Go.RowKit
open Go.RowKit Go.Maps
set_option maxHeartbeats 1000000
set_option maxRecDepth 100000
theorem Bc{ws:List Wd}{nm:List ByteArray}{n:Nat}{x:Tm n}{v:Wd}(h:dv ws nm n x v)(r:av ⟨n,x⟩)(g:aF n x=true)(t:ws.length<=100000)(s:nm.length<=100000):cC ws nm v=true/\dh v.2:=by
 cases n with
 | zero=>exact h.elim
 | succ n=>
 have d:=r (bu n x) (by simp[ar,bu]);have i:=jM (bu n x) d;simp only[bu]at i;simp only[aF,ay,oq,f9]at g;obtain⟨m,b,c⟩:=h;by_cases e:x.1.1=2
 ·obtain⟨k,rfl,p⟩:=m e;have j:=(aL.1 p).1;refine⟨?_,?_⟩
  ·simp[cC,tV,j]
  ·unfold dh;show (-9223372036854775808:Int)<=(k:Int)/\(k:Int)<=9223372036854775807;omega
 ·by_cases f:x.1.1=4
  ·obtain⟨l,rfl,q,j,_⟩:=b f;refine⟨?_,?_⟩
   ·simp[cC,fG,q]
   ·unfold dh;show (-9223372036854775808:Int)<=(l:Int)/\(l:Int)<=9223372036854775807;omega
  ·obtain rfl:=c e f;refine⟨?_,(tT _ d).2⟩;have o:x.1.1=1\/x.1.1=3:=by
    rcases i with a|a|a|a|a|a
    ·exact ae a
    ·exact absurd a e
    ·exact af a
    ·exact absurd a f
    ·exact absurd a g.1.1
    ·exact absurd a.1 g.1.2
   unfold cm at d;simp only[bu]at d;rcases o with a|a
   ·simp[cC,a]at d ⊢;exact d.1.2
   ·simp[cC,a]at d ⊢;exact d.1.2
theorem If(n:Nat)(x:Tm n)(v:Wd)(base:Nat)(a:cg)(room:Int)(ws:List Wd)(nm:List ByteArray)(M:Nat->Prop)(w:World)(h:du base a room ws nm M w)(d:dv ws nm n x v)(j:av ⟨n,x⟩)(m:aF n x=true)(f:ws.length<=100000)(i:nm.length<=100000):ah 68 #[.pointer (some ⟨a.b,a.o,none⟩),GL v] w λe w'=>∃y:Tm n,e=.returned (.tuple #[dd n y,.int .i64 0])/\Hid (ag w w'/\In w'.heap.size w' n y/\bV (λq=>w.heap.size<=q) n y/\au n y n x=true):=by
 cases n with
 | zero=>exact d.elim
 | succ n=>
 obtain⟨l,p⟩:=Bc d j m f i;refine Mw n x a v.1 v.2 w ?_ ?_
 ·intro g c;have k:=uJ base a room ws nm _ v g (h.later c) f p;rw[l]at k;exact k
 ·exact λg c=>Jq (n+1) x v base a room ws nm _ g (h.later c) f i d j
abbrev cO:=List (Nat×Nat)
def look(g:cO)(p:Nat):Option Nat:=(g.find? λe=>e.1==p).map λe=>e.2
theorem rA(g:cO)(p q:Nat):look ((p,q)::g) p=some q:=by simp[look]
theorem pB(g:cO){p r:Nat}(q:Nat)(a:r≠p):look ((p,q)::g) r=look g r:=by
 have:(p==r)=false:=by simp;omega
 simp[look,this]
def gq(f:Wd->List Wd×cO->Wd×List Wd×cO):List Wd->List Wd×cO->List Wd×List Wd×cO
 | [],S=>([],S)
 | v::l,S=>((f v S).1::(gq f l (f v S).2).1,(gq f l (f v S).2).2)
def jm(ws:List Wd):Nat->Wd->List Wd×cO->Wd×List Wd×cO
 | 0,v,S=>(v,S)
 | n+1,v,S=>
  if v.1=4 then
   match look S.2 v.2.toNat with
   | some q=>((4,(q:Int)),S)
   | none=>
    match ws[v.2.toNat]? with
    | some a=>((4,((gq (jm ws n) ((ws.drop (v.2.toNat+1)).take a.2.toNat) S).2.1.length:Int)),(gq (jm ws n) ((ws.drop (v.2.toNat+1)).take a.2.toNat) S).2.1++(0,a.2)::(gq (jm ws n) ((ws.drop (v.2.toNat+1)).take a.2.toNat) S).1,(v.2.toNat,(gq (jm ws n) ((ws.drop (v.2.toNat+1)).take a.2.toNat) S).2.1.length)::(gq (jm ws n) ((ws.drop (v.2.toNat+1)).take a.2.toNat) S).2.2)
    | none=>(v,S)
  else (v,S)
theorem Hf(f:Wd->List Wd×cO->Wd×List Wd×cO)(l:List Wd)(v:Wd)(S:List Wd×cO):gq f (l++ [v]) S=((gq f l S).1++ [(f v (gq f l S).2).1],(f v (gq f l S).2).2):=by
 induction l generalizing S with
 | nil=>simp[gq]
 | cons a l ih=>simp[gq,ih]
theorem pn(f:Wd->List Wd×cO->Wd×List Wd×cO)(l:List Wd)(S:List Wd×cO):(gq f l S).1.length=l.length:=by
 induction l generalizing S with
 | nil=>simp[gq]
 | cons a l ih=>simp[gq,ih]
def tq(D:DataW Unit)(g:cO):Prop:=∀p:Nat,(Maps.has D (.int .i64 p)=true ↔ (look g p).isSome=true)/\∀q:Nat,look g p=some q->D.atKey (.int .i64 p) (.lit (.int .i64 0))=.lit (.int .i64 q)
theorem JI:tq (.map []) []:=λp=>⟨by simp[Maps.has,look],λq a=>by simp[look]at a⟩
theorem D8(k:Int):WideAt.IsKeyLit (.int .i64 k):=by first|trivial|simp[WideAt.IsKeyLit]|decide
theorem JJ{w:World}{j L:Nat}{D:DataW Unit}{g:cO}(f:w.ownsMap Tryz.prog 3 (plainElem Tryz.prog 3) j L D)(e:tq D g)(p q:Nat):tq (D.put (.int .i64 p) (.lit (.int .i64 q))) ((p,q)::g):=by
 intro c;by_cases b:c=p
 ·subst b;refine⟨?_,λi a=>?_⟩
  ·rw[has_put_same f.isMap (D8 _),rA];simp
  ·rw[rA]at a;rw[atKey_put_same f.isMap (D8 _),aq a]
 ·have h:(Lit.int .i64 (c:Int))≠(Lit.int .i64 (p:Int)):=λd=>b (by injection d with _ d;omega);refine⟨?_,λi a=>?_⟩
  ·rw[has_put_other h,pB g q b];exact(e c).1
  ·rw[pB g q b]at a;rw[atKey_put_other h];exact(e c).2 i a
theorem Cn:Keyed Tryz.prog 3:=int_keyed Tryz.underlying3
def CB(a:Nat)(b tv mv:Value)(w:World):Prop:=w.heap[a]?=some (.cells #[b,tv,mv] 269)
theorem CB.lt{a:Nat}{b tv mv:Value}{w:World}(c:CB a b tv mv w):a<w.heap.size:=(aA.1 c).1
theorem CB.cells{a:Nat}{b tv mv:Value}{w:World}(c:CB a b tv mv w):(w.cell? ⟨a,0,none⟩=some b/\w.cell? ⟨a,1,none⟩=some tv/\w.cell? ⟨a,2,none⟩=some mv)/\∀j,w.frozen? ⟨a,j,none⟩=false:=by
 unfold CB at c;refine⟨⟨?_,?_,?_⟩,λj=>?_⟩
 all_goals simp[World.cell?,World.frozen?,c]
theorem CB.set1{a:Nat}{b tv mv:Value}{w:World}(c:CB a b tv mv w)(v:Value):CB a b v mv (w.setCell ⟨a,1,none⟩ v):=by
 unfold CB at*;simp[World.setCell,bC,c]
theorem CB.kept{a:Nat}{b tv mv:Value}{w w':World}(c:CB a b tv mv w)(k:w'.heap[a]?=w.heap[a]?):CB a b tv mv w':=k.trans c
def g8(base e:Nat)(f:Value)(S:List Wd×cO)(M:Nat->Prop)(w:World):Prop:=
 ∃c a d,CB e f c (.map (some a)) w/\w.ownsRow base 105 2 c S.1.length (aS S.1)/\w.ownsMap Tryz.prog 3 (plainElem Tryz.prog 3) a S.2.length d/\tq d S.2/\M e/\(∀b,c.ownBlock=some b->M b)/\M a
theorem g8.kept{base a:Nat}{g:Value}{S:List Wd×cO}{M T:Nat->Prop}{w w':World}(q:g8 base a g S M w)(k:bL T w w')(d:∀b,M b->b<w.heap.size->¬T b):g8 base a g S M w':=by
 obtain⟨u,e,o,c,h,i,r,j,l,m⟩:=q;refine⟨u,e,o,c.kept (k.block a c.lt (d a j c.lt)),dJ h k λb f=>d b (l b f) (h.lt b f).2,?_,r,j,l,m⟩;have n:=i.lt;obtain⟨es,p,s,t⟩:=i;exact⟨es,p,(k.block e n (d e m n)).trans s,t⟩
theorem g8.inside{base a:Nat}{d:Value}{S:List Wd×cO}{M:Nat->Prop}{w:World}(i:g8 base a d S M w):g8 base a d S (λb=>M b/\b<w.heap.size) w:=by
 obtain⟨o,n,h,e,f,g,j,k,l,m⟩:=i;exact⟨o,n,h,e,f,g,j,⟨k,e.lt⟩,λb c=>⟨l b c,(f.lt b c).2⟩,m,g.lt⟩
theorem g8.later{base c:Nat}{d:Value}{S:List Wd×cO}{M:Nat->Prop}{w wA:World}(a:g8 base c d S M w)(e:ag w wA):g8 base c d S (λb=>M b/\b<w.heap.size) wA:=
 a.inside.kept (aT e (λ_=>False)) λ_ _ _ a=>a
theorem g8.mono{base a:Nat}{c:Value}{S:List Wd×cO}{M T:Nat->Prop}{w:World}(f:g8 base a c S M w)(k:∀b,M b->T b):g8 base a c S T w:=by
 obtain⟨p,o,d,g,h,i,j,l,m,n⟩:=f;exact⟨p,o,d,g,h,i,j,k _ l,λb e=>k b (m b e),k _ n⟩
theorem IL(b:Nat)(k a:Int)(w:World)(c:¬k=4):ah 187 #[.pointer (some ⟨b,0,none⟩),.agg #[.int .i64 k,.int .i64 a]] w λe w'=>e=.returned (.agg #[.int .i64 k,.int .i64 a])/\ag w w':=by
 have d:(k !=4)=true:=by simpa using c
 go_enter Tryz.func187,Tryz.ntmps187;go_wp2_with fail;exact ap (v:=.agg #[.int .i64 k,.int .i64 a]) (by simp[results,Tryz.results187,go_sem]) rfl ⟨rfl,by go_grown⟩
theorem Lu{D:DataW Unit}{g:cO}(b:tq D g){p q:Nat}{c:Int}(d:look g p=some q)(a:D.atKey (.int .i64 p) (.lit (.int .i64 0))=.lit (.int .i64 c)):c=q:=by
 have:=(b p).2 q d;rw[this]at a;simp at a;exact a.symm
theorem KU(base g:Nat)(x:Value)(S:List Wd×cO)(M:Nat->Prop)(p q:Nat)(w:World)(a:Hid (g8 base g x S M w))(r:Hid (look S.2 p=some q))(P:p<=100000):ah 187 #[.pointer (some ⟨g,0,none⟩),.agg #[.int .i64 4,.int .i64 p]] w λe w'=>e=.returned (.agg #[.int .i64 4,.int .i64 q])/\ag w w':=by
 go_enter Tryz.func187,Tryz.ntmps187;go_wp2_with fail;generalize h:(w.alloc (Obj.cells #[Value.int IntKind.i64 4,Value.int IntKind.i64 p] 105)).alloc (Obj.cells #[.int .i64 0,.int .i64 0] 105)=wA;have j:Hid (ag w wA.drew/\wA.drew.heap.size=w.heap.size+2):=by
  subst h;exact⟨(((ak _ _).alloc (ai _) _).alloc (by simp) _).drew,by simp[World.drew]⟩
 have K:wA.cell? ⟨w.heap.size,1,none⟩=some (.int .i64 p):=by subst h;simp[go_sem]
 have l:Hid (yU (w.heap.size+1) wA.drew):=by
  subst h;have:=ax (w.alloc (Obj.cells #[Value.int IntKind.i64 4,Value.int IntKind.i64 p] 105)) (Obj.cells #[.int .i64 0,.int .i64 0] 105);have es:∀o,(w.alloc o).heap.size=w.heap.size+1:=λo=>by simp
  rw[es]at this;exact this
 obtain⟨d,J,D⟩:∃d,wA.cell? ⟨g,2,none⟩=some (.map (some d))/\(Instr.lookup 267 (.map (some d)) (.int .i64 p) true).run Tryz.prog wA.drew=.ok (.tuple #[.int .i64 q,.bool true]) wA.drew:=by
  obtain⟨Q,d,t,y,O,z,m,_⟩:=a.out.later j.out.1;obtain⟨v,ps,s,E⟩:=z.look_ok Cn Tryz.underlying267 (qS _) (plainElem_int Tryz.underlying3 (gY (by omega))) (keyOf_int_mk Tryz.underlying3 (gY (n:=(p:Int)) (by omega)));obtain⟨c,rfl,B,_⟩:=plainElem_int_inv Tryz.underlying3 E;have e:=Lu m r.out (congrArg Prod.fst B);have C:Maps.has t (.int .i64 p)=true:=(m p).1.2 (by rw[r.out];rfl);rw[C,e]at s;exact⟨d,y.cells.1.2.2,s⟩
 clear h a;go_region_held3 (λw'=>w'.cell? ⟨w.heap.size,1,none⟩=some (.int .i64 p)/\w'.cell? ⟨g,2,none⟩=some (.map (some d))) (go_keep) (fail);obtain⟨⟨H,I⟩,L,N⟩:=l.out.facts;have u:Hid (∀i k,ag w ((wA.drew.setCell ⟨w.heap.size+1,0,none⟩ i).setCell ⟨w.heap.size+1,1,none⟩ k)):=by
  intro i k;have F:=aZ wA.drew (w.heap.size+1) 0 i;have G:=aZ (wA.drew.setCell ⟨w.heap.size+1,0,none⟩ i) (w.heap.size+1) 1 k;have f:=(aT j.out.1 (λb=>b=w.heap.size+1)).trans (F.trans G (λb _ a=>a)) (λb _ a=>a);exact⟨f.os,f.tape,f.output,f.size,λb A=>f.block b A (by omega)⟩
 clear D l j;generalize wA.drew=R at*;go_wp2_with fail;exact ap (v:=.agg #[.int .i64 4,.int .i64 q]) (by simp[results,Tryz.results187,go_sem,H,I]) rfl ⟨rfl,u.out _ _⟩
def vz(base a:Nat)(c:Value)(S:List Wd×cO)(M:Nat->Prop)(w w':World):Prop:=g8 base a c S (λb=>M b\/w.heap.size<=b) w'/\bL M w w'
def wY(f:Wd->List Wd×cO->Wd×List Wd×cO)(vs:List Wd)(len base c:Nat)(d:Value)(S:List Wd×cO)(M:Nat->Prop)(g:Nat)(w a:World)(k:Nat)(wr:World):Prop:=
 wr.ownsRow g 105 2 (.slice (some ⟨g,0,none⟩) len len) len (aS ((gq f (vs.take k) S).1++List.replicate (len-k) (0,0)))/\
 g8 base c d (gq f (vs.take k) S).2 (λb=>(M b/\b<w.heap.size)\/a.heap.size<=b) wr/\
 bL (λb=>(M b/\b<w.heap.size)\/b=g) a wr
theorem GY{f:Wd->List Wd×cO->Wd×List Wd×cO}{vs:List Wd}{len base g:Nat}{h:Value}{S:List Wd×cO}{M:Nat->Prop}{w w0:World}(d:g8 base g h S M w)(e:w0.ownsRow w.heap.size 105 2 (.slice (some ⟨w.heap.size,0,none⟩) len len) len (madeCells (Value.agg #[.int .i64 0,.int .i64 0]).cells (len*2)).toList)(a:w.grownBy w0 none):wY f vs len base g h S M w.heap.size w w0 0 w0/\ag w w0/\w.heap.size<w0.heap.size:=by
 have c:ag w w0:=⟨a.os,a.tape,a.output,a.size,λb c=>a.block b c (by simp)⟩;refine⟨⟨?_,?_,bL.refl _ _⟩,c,(e.lt _ rfl).2⟩
 ·simp only[List.take_zero,gq,l9,Nat.sub_zero];have i:=uk len;have j:(Value.agg #[.int .i64 0,.int .i64 0]).cells= #[.int .i64 0,.int .i64 0]:=rfl;rw[j,i]at e;exact e
 ·simp only[List.take_zero,gq];exact(d.later c).mono λb d=>ae d
theorem wY.step{f:Wd->List Wd×cO->Wd×List Wd×cO}{vs:List Wd}{len base i:Nat}{l:Value}{S:List Wd×cO}{M:Nat->Prop}{g:Nat}{w d:World}{k:Nat}{wr w1 w2:World}(H:wY f vs len base i l S M g w d k wr)(G:w.heap.size<=g)(I:g<d.heap.size)(K:k<len)(L:vs.length=len){v:Wd}(A:vs[k]?=some v)(m:ag wr w1)(z:vz base i l (f v (gq f (vs.take k) S).2).2 (λb=>((M b/\b<w.heap.size)\/d.heap.size<=b)/\b<wr.heap.size) w1 w2):wY f vs len base i l S M g w d (k+1) ((w2.setCell ⟨g,k*2,none⟩ (.int .i64 (f v (gq f (vs.take k) S).2).1.1)).setCell ⟨g,k*2+1,none⟩ (.int .i64 (f v (gq f (vs.take k) S).2).1.2))/\ (w2.cell? ⟨g,k*2,none⟩=some (.int .i64 0)/\w2.cell? ⟨g,k*2+1,none⟩=some (.int .i64 0))/\w2.frozen? ⟨g,k*2,none⟩=false/\w2.frozen? ⟨g,k*2+1,none⟩=false:=by
 obtain⟨o,E,p⟩:=H;obtain⟨u,q⟩:=z;have J:g<wr.heap.size:=(o.lt g rfl).2;have N:=m.size;have O:=p.size;have r:gq f (vs.take (k+1)) S=((gq f (vs.take k) S).1++ [(f v (gq f (vs.take k) S).2).1],(f v (gq f (vs.take k) S).2).2):=by
  rw[dt,A];exact Hf _ _ _ _
 have s:(gq f (vs.take k) S).1.length=k:=by rw[pn,dr];omega
 have h:w2.ownsRow g 105 2 (.slice (some ⟨g,0,none⟩) len len) len (aS ((gq f (vs.take k) S).1++List.replicate (len-k) (0,0))):=by
  refine dJ (dE o m) q λb j=>?_;simp only[Value.ownBlock]at j;obtain rfl:=aq j;omega
 generalize gq f (vs.take k) S=e at*;generalize f v e.2=c at*;have B:(e.1++List.replicate (len-k) (0,0))[k]?=some ((0,0):Wd):=by
  rw[dZ (by omega),s,ji,List.getElem?_replicate];simp;omega
 have C:=aZ w2 g (k*2) (.int .i64 c.1.1);have D:=aZ (w2.setCell ⟨g,k*2,none⟩ (.int .i64 c.1.1)) g (k*2+1) (.int .i64 c.1.2);have t:=C.trans D (λb _ a=>a);refine⟨⟨?_,?_,?_⟩,iA h k (0,0) B,oc h _,oc h _⟩
 ·rw[r];have n:=iN (iN h (k*2) (.int .i64 c.1.1)) (k*2+1) (.int .i64 c.1.2);rw[pR _ k c.1 (by simp;omega)]at n;have es:(e.1++List.replicate (len-k) ((0,0):Wd)).set k c.1=(e.1++ [c.1])++List.replicate (len-(k+1)) (0,0):=by
   rw[gW _ _ (by omega)];have:len-k=(len-(k+1))+1:=by omega
   rw[this,List.replicate_succ];simp[s]
  rw[es]at n;exact n
 ·rw[r];refine(u.kept t ?_).mono ?_
  ·rintro b (⟨a,_⟩|a) _ j<;>omega
  ·rintro b (⟨a,_⟩|a)
   ·exact a
   ·exact af (by omega)
 ·have x:bL (λb=>(M b/\b<w.heap.size)\/b=g) d w1:=p.trans (aT m (λ_=>False)) (λ_ _ a=>a.elim)
  have y:bL (λb=>(M b/\b<w.heap.size)\/b=g) d w2:=x.trans q (λb F a=>by
   rcases a.1 with a|a
   ·exact ae a
   ·omega)
  exact y.trans t (λb _ a=>af a)
def BI(f:Wd->List Wd×cO->Wd×List Wd×cO)(vs:List Wd)(base c:Nat)(d:Value)(S:List Wd×cO)(M:Nat->Prop)(g:Nat)(w w':World):Prop:=
 ∃a,g8 base c d (gq f vs S).2 a w'/\bL M w w'/\(∀b,a b->M b\/w.heap.size<=b)/\¬a g/\w.heap.size<=g/\w'.ownsRow g 105 2 (.slice (some ⟨g,0,none⟩) vs.length vs.length) vs.length (aS (gq f vs S).1)
theorem wY.done{f:Wd->List Wd×cO->Wd×List Wd×cO}{vs:List Wd}{len base h:Nat}{i:Value}{S:List Wd×cO}{M:Nat->Prop}{g:Nat}{w d wr:World}(H:wY f vs len base h i S M g w d len wr)(m:vs.length=len)(l:w.heap.size<=g)(o:g<d.heap.size)(j:ag w d):BI f vs base h i S M g w wr:=by
 obtain⟨c,e,k⟩:=H;rw[bw (by omega)]at c e;rw[ji,mg,dY]at c;subst m;refine⟨_,e,(aT j M).trans k ?_,?_,?_,l,c⟩
 ·rintro b n (a|a)
  ·exact a.1
  ·omega
 ·rintro b (a|a)
  ·exact ae a.1
  ·exact af (by have:=j.size;omega)
 ·rintro (a|a)<;>omega
theorem xA(f:Wd->List Wd×cO->Wd×List Wd×cO)(vs:List Wd)(base d:Nat)(i:Value)(S:List Wd×cO)(M:Nat->Prop)(a:Option Addr)(len pc:Nat)(w:World)(s:Hid (vs.length=len))(aa:len<=100000)(c:Hid (g8 base d i S M w))(D:Hid (eq w vs a))(H:Hid (∀b o,a=some ⟨b,o,none⟩->¬M b))(ih:Hid (∀(k:Nat)(v:Wd),vs[k]?=some v->∀(M':Nat->Prop)(w1:World),g8 base d i (gq f (vs.take k) S).2 M' w1->bL M w w1->(∀b,M' b->M b\/w.heap.size<=b)-> ah 187 #[.pointer (some ⟨d,0,none⟩),.agg #[.int .i64 v.1,.int .i64 v.2]] w1 λe w2=>e=.returned (.agg #[.int .i64 (f v (gq f (vs.take k) S).2).1.1,.int .i64 (f v (gq f (vs.take k) S).2).1.2])/\Hid (vz base d i (f v (gq f (vs.take k) S).2).2 M' w1 w2))):ah 184 #[.pointer (some ⟨d,0,none⟩),.slice a len pc] w λe w'=>∃g,e=.returned (.slice (some ⟨g,0,none⟩) len len)/\Hid (BI f vs base d i S M g w w'):=by
 obtain⟨Q,E,J,K,L⟩:=bO kv;go_enter Tryz.func184,Tryz.ntmps184;go_wp2_with (at_make;refine ke _ rfl _ _ 96 rfl w.heap.size 105 Q _ 2 Tryz.underlying96 E J K _ _ _ _ len rfl rfl rfl rfl (by rw[L];omega) (by unfold maxLen;omega) (ai _) ?_;intro p I C;have m:=aj (GY (f:=f) (vs:=vs) c.out I C);clear I C);clear E J K L;have y:Hid (wY f vs len base d i S M w.heap.size w p 0 p):=m.out.1;have B:w.heap.size<p.heap.size:=m.out.2.2;go_loopw [13] (λj wr=>∃k:Nat,k<=len/\j=.int .i64 k/\Hid (wY f vs len base d i S M w.heap.size w p k wr)) (λj _=>len-(intOf j).toNat)
 case atStart=>exact⟨0,by omega,rfl,y.out⟩
 case round=>
  clear y;obtain⟨k,X,rfl,h⟩:=hrel;by_cases G:k<len
  ·obtain⟨v,l⟩:∃v,vs[k]?=some v:=⟨vs[k]'(by rw[s.out];exact G),aD _⟩;obtain⟨b,o,rfl,A,N⟩:∃b o,a=some ⟨b,o,none⟩/\b<w.heap.size/\∀(j:Nat)(v:Wd),vs[j]?=some v->w.cell? ⟨b,o+j*2,none⟩=some (.int .i64 v.1)/\w.cell? ⟨b,o+j*2+1,none⟩=some (.int .i64 v.2):=by
    rcases D.out with e|e
    ·rw[e]at l;simp at l
    ·exact e
   obtain⟨t,u⟩:=N k v l;have r:wr.heap[b]?=w.heap[b]? :=(h.out.2.2.block b (by omega) (by rintro (c|c);exact H.out b o rfl c.1;omega)).trans (m.out.2.1.block b A);replace t:=(bk r (o+k*2)).trans t;replace u:=(bk r (o+k*2+1)).trans u;have W:w.heap.size<wr.heap.size:=(h.out.1.lt _ rfl).2;have ab:=h.out.2.2.size;have F:bL M w wr:=(aT m.out.2.1 M).trans h.out.2.2 (by rintro b A (c|c);exact c.1;omega)
   obtain⟨n,x⟩:∃n:Wd,Hid (∀w1,ag wr w1->ah 187 #[.pointer (some ⟨d,0,none⟩),.agg #[.int .i64 v.1,.int .i64 v.2]] w1 λe w2=>e=.returned (.agg #[.int .i64 n.1,.int .i64 n.2])/\
       Hid (wY f vs len base d i S M w.heap.size w p (k+1) ((w2.setCell ⟨w.heap.size,k*2,none⟩ (.int .i64 n.1)).setCell ⟨w.heap.size,k*2+1,none⟩ (.int .i64 n.2))/\
        (w2.cell? ⟨w.heap.size,k*2,none⟩=some (.int .i64 0)/\w2.cell? ⟨w.heap.size,k*2+1,none⟩=some (.int .i64 0))/\w2.frozen? ⟨w.heap.size,k*2,none⟩=false/\w2.frozen? ⟨w.heap.size,k*2+1,none⟩=false)):=by
    refine⟨(f v (gq f (vs.take k) S).2).1,λw1 q=>?_⟩;refine(ih.out k v l _ w1 (h.out.2.1.later q) (F.trans (aT q M) (λ_ _ c=>c)) ?_).mono ?_
    ·rintro b ⟨c|c,_⟩
     ·exact ae c.1
     ·exact af (by omega)
    ·rintro e w2 ⟨rfl,P⟩;exact⟨rfl,h.out.step (ai _) B G s.out l q P.out⟩
   clear ih h D N l H r F;have Y:(0:Int)<=(k:Int):=by omega
   have Z:(k:Int)<(len:Int):=by omega
   have V:b<wr.heap.size:=by omega
   go_wp2_with fail;refine(x.out _ ((ak _ _).alloc (ai _) _)).mono ?_;rintro e w2 ⟨rfl,z⟩;obtain⟨⟨R,d1⟩,T,U⟩:=z.out.2;clear x t u;go_wp2_with fail;go_roundw
   case rel=>exact⟨k+1,by omega,by go_num,z.out.1⟩
   case measure=>simp[intOf];omega
  ·obtain rfl:k=len:=by omega
   have O:=aj (h.out.done s.out (ai _) B m.out.2.1);clear h ih;go_wp2_with fail
   go_ret
   exact⟨_,rfl,O.out⟩
theorem I5{w:World}{base:Nat}{e:TypeId}{s n:Nat}{v:Value}{xs:List Value}{b:Nat}{c tv mv:Value}(f:w.ownsRow base e s v n xs)(h:CB b c tv mv w)(j:e≠269):v.ownBlock≠some b:=λe=>by
 rcases f.2 with⟨rfl,_⟩|⟨d,cap,k,rfl,_,i,_⟩
 ·simp[Value.ownBlock]at e
 ·simp[Value.ownBlock]at e;subst e;have a:w.heap[d]?=_:=h;rw[i]at a;injection a with a;injection a with a g;exact j g
theorem AW{w:World}{base:Nat}{e:TypeId}{s n L c:Nat}{v:Value}{xs:List Value}{D:DataW Unit}(d:w.ownsRow base e s v n xs)(f:w.ownsMap Tryz.prog 3 (plainElem Tryz.prog 3) c L D):v.ownBlock≠some c:=λa=>by
 rcases d.2 with⟨rfl,_⟩|⟨g,cap,j,rfl,_,h,_⟩
 ·simp[Value.ownBlock]at a
 ·simp only[Value.ownBlock]at a;obtain rfl:=aq a;obtain⟨es,i,b,_⟩:=f;rw[h]at b;cases b
theorem uo{w:World}{L a b:Nat}{D:DataW Unit}{d tv mv:Value}(f:w.ownsMap Tryz.prog 3 (plainElem Tryz.prog 3) a L D)(e:CB b d tv mv w):a≠b:=by
 rintro rfl;obtain⟨es,h,g,_⟩:=f;have c:w.heap[a]?=_:=e;rw[g]at c;cases c
theorem N0(base d:Nat)(n:Value)(S:List Wd×cO)(M:Nat->Prop)(ps:List Wd)(m pc:Nat)(pa:Option Addr)(w:World)(z:g8 base d n S M w)(E:base<=w.heap.size)(C:S.1.length<=100000)(I:ps.length=m)(D:m<=1000)(u:∀w1,bL M w w1->eG w1 ps pa):ah 130 #[.pointer (some ⟨d,1,none⟩),.slice pa m pc] w λe w'=>e=.returned (.agg #[.int .i64 4,.int .i64 S.1.length])/\Hid (vz base d n (S.1++(0,(m:Int))::ps,S.2) M w w'):=by
 obtain⟨q,p,s,a,f,g,A,h,i,B⟩:=z;obtain⟨⟨R,v,T⟩,F⟩:=a.cells;obtain⟨j,l,K⟩:∃j l,q=.slice j S.1.length l:=by
  rcases f.2 with⟨e,y⟩|⟨V,c,U,e,_⟩
  ·exact⟨none,0,by rw[e,y]⟩
  ·exact⟨_,c,e⟩
 subst I;refine(yY base d 1 q j l S.1.length S.1 ps ps.length pc pa w K rfl rfl C D E v (F 1) a.lt (I5 f a (by decide)) f ?_).mono ?_
 ·intro w1 k;refine u w1 (k.mono ?_);rintro b (rfl|e)
  ·exact h
  ·exact i b e
 ·rintro e w' ⟨rfl,r,t⟩;obtain⟨O,P,o,Q⟩:=t.out;refine⟨rfl,⟨r,p,s,(a.set1 r).kept P,?_,?_,A,ae h,?_,ae B⟩,o.mono ?_⟩
  ·have e:(S.1++(0,(ps.length:Int))::ps).length=S.1.length+1+ps.length:=by simp;omega
   rw[e];exact O
  ·have H:=g.lt;have L:=uo g a;have N:=AW f g;obtain⟨es,x,G,J⟩:=g;refine⟨es,x,(o.block p H ?_).trans G,J⟩;rintro (e|e)
   ·exact L e
   ·exact N e
  ·intro b e;rcases Q b e with e|e
   ·exact ae (i b e)
   ·exact af e
  ·rintro b (rfl|e)
   ·exact h
   ·exact i b e
theorem KV{base e:Nat}{h:Value}{S:List Wd×cO}{M:Nat->Prop}{w:World}(m:g8 base e h S M w)(p q:Nat)(A:p<=100000)(B:q<=100000)(z:S.2.length<=100000):∃a,w.cell? ⟨e,2,none⟩=some (.map (some a))/\∃w4,(Instr.mapUpdate 267 (.map (some a)) (.int .i64 p) (.int .i64 q)).run Tryz.prog w=.ok () w4/\g8 base e h (S.1,(p,q)::S.2) M w4/\bL (λb=>b=a) w w4/\M a/\a<w.heap.size/\w4.cell? ⟨e,2,none⟩=some (.map (some a)):=by
 obtain⟨x,a,y,d,i,f,o,r,s,j⟩:=m;obtain⟨w4,v,u,t⟩:=f.update Cn Tryz.underlying267 (by unfold maxLen;omega) (keyOf_int_mk Tryz.underlying3 (gY (n:=(p:Int)) (by omega))) (plainElem_int Tryz.underlying3 (gY (n:=(q:Int)) (by omega)));have k:=Cq t;have g:bL (λb=>b=a) w w4:=k.mono λb c=>(aq c).symm;refine⟨a,d.cells.1.2.2,w4,v,⟨x,a,_,d.kept (g.block e d.lt (λc=>uo f d c.symm)),dJ i g ?_,u,JJ f o p q,r,s,j⟩,g,j,f.lt,(d.kept (g.block e d.lt (λc=>uo f d c.symm))).cells.1.2.2⟩;intro b c l;subst l;exact AW i f c
theorem B6(w:World)(a b:Int):(Instr.field 105 (.agg #[.int .i64 a,.int .i64 b]) 1).run Tryz.prog w=.ok (.int .i64 b) w:=by kernel_rfl
theorem KT(base a:Nat)(H:Value)(S:List Wd×cO)(M:Nat->Prop)(p q f L h n:Nat)(w:World)(u:World->Prop)(I:Hid (g8 base a H S M w))(U:H=.slice (some ⟨f,0,none⟩) L h)(W:Hid (look S.2 p=none))(aB:p<=100000)(z:Hid (∀b,ag w b->w.heap.size+2<=b.heap.size->ah 135 #[.slice (some ⟨f,0,none⟩) L h,.int .i64 p] b λe w'=>w'=b/\∃o pc,e=.returned (.slice (some ⟨f,o,none⟩) n pc)/\ Hid (ah 184 #[.pointer (some ⟨a,0,none⟩),.slice (some ⟨f,o,none⟩) n pc] b λe w2=>∃g,e=.returned (.slice (some ⟨g,0,none⟩) n n)/\ Hid ((∀j,w2.cell? ⟨w.heap.size,j,none⟩=b.cell? ⟨w.heap.size,j,none⟩)/\w2.cell? ⟨a,0,none⟩=some (.slice (some ⟨f,0,none⟩) L h)/\ ah 130 #[.pointer (some ⟨a,1,none⟩),.slice (some ⟨g,0,none⟩) n n] w2 λe k=>e=.returned (.agg #[.int .i64 4,.int .i64 q])/\ Hid ((∀j,k.cell? ⟨w.heap.size,j,none⟩=b.cell? ⟨w.heap.size,j,none⟩)/\k.cell? ⟨a,0,none⟩=some (.slice (some ⟨f,0,none⟩) L h)/\ ∃d w4,k.cell? ⟨a,2,none⟩=some (.map (some d))/\(Instr.mapUpdate 267 (.map (some d)) (.int .i64 p) (.int .i64 q)).run Tryz.prog k.drew=.ok () w4/\(∀j,w4.cell? ⟨w.heap.size,j,none⟩=b.cell? ⟨w.heap.size,j,none⟩)/\w4.cell? ⟨a,2,none⟩=some (.map (some d))/\ (yU (w.heap.size+1) b->yU (w.heap.size+1) w4)/\∀v0 v1,u ((w4.setCell ⟨w.heap.size+1,0,none⟩ v0).setCell ⟨w.heap.size+1,1,none⟩ v1)))))):ah 187 #[.pointer (some ⟨a,0,none⟩),.agg #[.int .i64 4,.int .i64 p]] w λe w'=>e=.returned (.agg #[.int .i64 4,.int .i64 q])/\u w':=by
 subst U;go_enter Tryz.func187,Tryz.ntmps187;go_wp2_with fail;generalize t:(w.alloc (Obj.cells #[Value.int IntKind.i64 4,Value.int IntKind.i64 p] 105)).alloc (Obj.cells #[.int .i64 0,.int .i64 0] 105)=wA;have l:Hid (ag w wA.drew/\wA.drew.heap.size=w.heap.size+2):=by
  subst t;exact⟨(((ak _ _).alloc (ai _) _).alloc (by simp) _).drew,by simp[World.drew]⟩
 have G:wA.cell? ⟨w.heap.size,1,none⟩=some (.int .i64 p):=by subst t;simp[go_sem]
 have C:Hid (yU (w.heap.size+1) wA.drew):=by
  subst t;have:=ax (w.alloc (Obj.cells #[Value.int IntKind.i64 4,Value.int IntKind.i64 p] 105)) (Obj.cells #[.int .i64 0,.int .i64 0] 105);have es:∀o,(w.alloc o).heap.size=w.heap.size+1:=λo=>by simp
  rw[es]at this;exact this
 obtain⟨d,F,E,P,X⟩:∃d,∃F:Int,wA.cell? ⟨a,0,none⟩=some (.slice (some ⟨f,0,none⟩) L h)/\wA.cell? ⟨a,2,none⟩=some (.map (some d))/\(Instr.lookup 267 (.map (some d)) (.int .i64 p) true).run Tryz.prog wA.drew=.ok (.tuple #[.int .i64 F,.bool false]) wA.drew:=by
  obtain⟨aC,d,x,J,az,Q,R,_⟩:=I.out.later l.out.1;obtain⟨v,ps,K,Z⟩:=Q.look_ok Cn Tryz.underlying267 (qS _) (plainElem_int Tryz.underlying3 (gY (by omega))) (keyOf_int_mk Tryz.underlying3 (gY (n:=(p:Int)) (by omega)));obtain⟨c,rfl,aA,_⟩:=plainElem_int_inv Tryz.underlying3 Z;have V:Maps.has x (.int .i64 p)=false:=by
   cases hx:Maps.has x (.int .i64 p)
   ·rfl
   ·have:=(R p).1.1 hx;rw[W.out]at this;simp at this
  rw[V]at K;exact⟨d,c,J.cells.1.1,J.cells.1.2.2,K⟩
 clear t I;go_region_held3 (λw'=>w'.cell? ⟨w.heap.size,1,none⟩=some (.int .i64 p)/\w'.cell? ⟨a,2,none⟩=some (.map (some d))) (go_keep) (fail);have s:wA.drew.cell? ⟨w.heap.size,1,none⟩=some (.int .i64 p):=G;have O:wA.drew.cell? ⟨a,0,none⟩=some (.slice (some ⟨f,0,none⟩) L h):=E;clear X G E P;generalize wA.drew=b at*;have B:=aj (z.out b.drew l.out.1.drew (by have:=l.out.2;show w.heap.size+2<=b.heap.size;omega));clear z;have T:=B6;go_wp2_with fail
 go_region_held3 (λw'=>w'.cell? ⟨w.heap.size,1,none⟩=some (.int .i64 p)/\w'.cell? ⟨a,0,none⟩=some (.slice (some ⟨f,0,none⟩) L h)) (go_keep) ((first
  | (go_at_call 135;refine B.out.mono ?_;rintro e w2 ⟨rfl,o,pc,rfl,y⟩;clear B)
  | (go_at_call 184;refine y.out.mono ?_;rintro e w2 ⟨g,rfl,m⟩;have aq:=(m.out.1 1).trans s;have ar:=m.out.2.1;clear y)
  | (go_at_call 130;refine m.out.2.2.mono ?_;rintro e k ⟨rfl,r⟩;have y1:=(r.out.1 1).trans s;have y2:=r.out.2.1;clear m)))
 obtain⟨i,w4,ao,Y,D,av,A,N⟩:∃i w4,k.cell? ⟨a,2,none⟩=some (.map (some i))/\(Instr.mapUpdate 267 (.map (some i)) (.int .i64 p) (.int .i64 q)).run Tryz.prog k.drew=.ok () w4/\Hid (∀j,w4.cell? ⟨w.heap.size,j,none⟩=b.drew.cell? ⟨w.heap.size,j,none⟩)/\w4.cell? ⟨a,2,none⟩=some (.map (some i))/\Hid (yU (w.heap.size+1) w4)/\Hid (∀v0 v1,u ((w4.setCell ⟨w.heap.size+1,0,none⟩ v0).setCell ⟨w.heap.size+1,1,none⟩ v1)):=by
  obtain⟨i,w4,aa,ab,ad,ae,af,al⟩:=r.out.2.2;exact⟨i,w4,aa,ab,ad,ae,af C.out,al⟩
 have au:=(D.out 1).trans s;obtain⟨⟨am,an⟩,aw,ay⟩:=A.out.facts;clear r D A C l aq ar y2 O s T;go_wp2_with fail;go_region_held3 (λw'=>w'.cell? ⟨w.heap.size,1,none⟩=some (.int .i64 p)/\w'.cell? ⟨a,2,none⟩=some (.map (some i))) (go_keep) (fail);clear Y ao y1 au av;go_wp2_with fail;exact ap (v:=.agg #[.int .i64 4,.int .i64 q]) (by simp[results,Tryz.results187,go_sem,am,an]) rfl ⟨rfl,N.out _ _⟩
def bY(ws:List Wd)(p n:Nat):List Wd:=(ws.drop (p+1)).take n
theorem CL{ws:List Wd}{p n i:Nat}(a:i<n):(bY ws p n)[i]?=ws[p+1+i]? :=by
 unfold bY;rw[rQ a,jX]
theorem kD{ws:List Wd}{p n:Nat}(a:p+1+n<=ws.length):(bY ws p n).length=n:=by
 unfold bY;rw[dr,eC];omega
def ge(ws:List Wd)(nm:List ByteArray)(n:Nat)(l:List Wd)(p:List (Tm n)):Prop:=l.length=p.length/\∀(i:Nat)(v:Wd)(y:Tm n),l[i]?=some v->p[i]?=some y->dv ws nm n y v
theorem tL{ws:List Wd}{n:Nat}{v:Wd}{S:List Wd×cO}(a:v.1≠4):jm ws n v S=(v,S):=by
 cases n with
 | zero=>rfl
 | succ n=>simp[jm,a]
theorem DL{ws:List Wd}{n p q:Nat}{S:List Wd×cO}(a:look S.2 p=some q):jm ws (n+1) (4,(p:Int)) S=((4,(q:Int)),S):=by
 simp[jm,a]
theorem xB{ws:List Wd}{n p m:Nat}{S:List Wd×cO}(a:look S.2 p=none)(b:ws[p]?=some (0,(m:Int))):jm ws (n+1) (4,(p:Int)) S= ((4,((gq (jm ws n) (bY ws p m) S).2.1.length:Int)),(gq (jm ws n) (bY ws p m) S).2.1++(0,(m:Int))::(gq (jm ws n) (bY ws p m) S).1,(p,(gq (jm ws n) (bY ws p m) S).2.1.length)::(gq (jm ws n) (bY ws p m) S).2.2):=by
 simp[jm,a,b,bY]
theorem nR{ws:List Wd}{nm:List ByteArray}{n:Nat}(ih:∀(x:Tm n)(v:Wd)(S:List Wd×cO),dv ws nm n x v->((jm ws n v S).2.1.length:Int)<=S.1.length+sz n x/\(jm ws n v S).2.2.length<=S.2.length+(ar n x).length):(l:List Wd)->(p:List (Tm n))->(S:List Wd×cO)->ge ws nm n l p->((gq (jm ws n) l S).2.1.length:Int)+p.length<=S.1.length+(p.map λy=>1+sz n y).sum/\(gq (jm ws n) l S).2.2.length<=S.2.length+(p.flatMap λy=>ar n y).length
 | [],[],S,_=>by simp[gq]
 | [],_::_,_,h=>by have:=h.1;simp at this
 | _::_,[],_,h=>by have:=h.1;simp at this
 | v::l,y::p,S,h=>by
  obtain⟨e,f⟩:=ih y v S (h.2 0 v y rfl rfl);obtain⟨g,j⟩:=nR ih l p (jm ws n v S).2 ⟨by have:=h.1;simpa using this,λi c d a b=>h.2 (i+1) c d (by simpa using a) (by simpa using b)⟩;simp only[gq,aH,bq,bv,aY,aV];exact⟨by omega,by omega⟩
theorem iX{ws:List Wd}{nm:List ByteArray}{n:Nat}{x:Tm (n+1)}{v:Wd}(i:dv ws nm (n+1) x v)(j:x.1.1=4):∃p:Nat,v=(4,(p:Int))/\ws[p]?=some (0,(x.2.2.length:Int))/\p+1+x.2.2.length<=ws.length/\ge ws nm n (bY ws p x.2.2.length) x.2.2:=by
 obtain⟨p,d,e,a,f⟩:=i.2.1 j;refine⟨p,d,e,a,kD a,λk o l b c=>?_⟩;obtain⟨m,g,h⟩:=f k l c;rw[CL (aL.1 c).1,g]at b;obtain rfl:=aq b;exact h
theorem ik{ws:List Wd}{nm:List ByteArray}{n:Nat}{x:Tm (n+1)}{v:Wd}(a:dv ws nm (n+1) x v)(c:x.1.1≠4):v.1≠4:=by
 by_cases b:x.1.1=2
 ·obtain⟨d,rfl,_⟩:=a.1 b;simp
 ·rw[a.2.2 b c];exact c
theorem rm{ws:List Wd}{nm:List ByteArray}:(n:Nat)->(x:Tm n)->(v:Wd)->(S:List Wd×cO)->dv ws nm n x v->((jm ws n v S).2.1.length:Int)<=S.1.length+sz n x/\(jm ws n v S).2.2.length<=S.2.length+(ar n x).length
 | 0,_,_,_,h=>h.elim
 | n+1,x,v,S,h=>by
  have k:=(ey (n+1) x).1;by_cases c:x.1.1=4
  ·obtain⟨p,rfl,g,f,i⟩:=iX h c;cases hk:look S.2 p with
   | some q=>
    rw[DL hk];exact⟨by simp only;omega,by simp only;omega⟩
   | none=>
    rw[xB hk g];obtain⟨a,b⟩:=nR (λx v S d=>rm n x v S d) (bY ws p x.2.2.length) x.2.2 S i;have e:=pn (jm ws n) (bY ws p x.2.2.length) S;rw[kD f]at e;have j:(ar (n+1) x).length=1+(x.2.2.flatMap λy=>ar n y).length:=by simp[ar];omega
    simp only[aY,aV,e,sz,if_pos c,j];exact⟨by omega,by omega⟩
  ·rw[tL (ik h c)];exact⟨by simp only;omega,by simp only;omega⟩
def L0(ws:List Wd)(nm:List ByteArray)(n:Nat):Prop:=∀(x:Tm n)(v:Wd)(base c d:Nat)(a:Value)(S:List Wd×cO)(M:Nat->Prop)(w:World),g8 base c a S M w->w.ownsRow d 105 2 a ws.length (aS ws)->(∀b,a.ownBlock=some b->¬M b)->base<=w.heap.size->dv ws nm n x v->av ⟨n,x⟩->ws.length<=100000->(S.1.length:Int)+sz n x<=90000->S.2.length+(ar n x).length<=90000->
 ah 187 #[.pointer (some ⟨c,0,none⟩),GL v] w λe w'=>e=.returned (GL (jm ws n v S).1)/\Hid (vz base c a (jm ws n v S).2 M w w')
theorem Lh(n:Nat)(p:List (Tm n))(k:Nat)(x:Tm n)(d:p[k]?=some x):((p.take k).map λy=>1+sz n y).sum+(1+sz n x)<=(p.map λy=>1+sz n y).sum:=by
 obtain⟨c,rfl⟩:=aL.1 d;have a:p=p.take k++p[k]::p.drop (k+1):=by
  rw[<-eP c,jf]
 have b:∀l:List (Tm n),0<=(l.map λy=>1+sz n y).sum:=by
  intro l
  induction l with
  | nil=>simp
  | cons y l ih=>
   have:=(ey n y).1;simp only[aH,bq];omega
 have e:=b (p.drop (k+1))
 conv=>rhs;rw[a]
 simp only[gV,List.sum_append,aH,bq];omega
theorem ge.take{ws:List Wd}{nm:List ByteArray}{n:Nat}{l:List Wd}{p:List (Tm n)}(c:ge ws nm n l p)(k:Nat):ge ws nm n (l.take k) (p.take k):=by
 refine⟨by simp[c.1],λe f g a b=>?_⟩;rw[jY]at a b;split at a
 ·rename_i d;rw[if_pos d]at b;exact c.2 e f g a b
 ·cases a
theorem rV(ws:List Wd)(nm:List ByteArray)(n:Nat)(ih:L0 ws nm n)(vs:List Wd)(p:List (Tm n))(base d l:Nat)(c:Value)(S:List Wd×cO)(M:Nat->Prop)(a:Option Addr)(pc:Nat)(w:World)(u:g8 base d c S M w)(r:w.ownsRow l 105 2 c ws.length (aS ws))(m:∀b,c.ownBlock=some b->¬M b)(I:base<=w.heap.size)(j:ge ws nm n vs p)(E:∀y∈p,av ⟨n,y⟩)(F:ws.length<=100000)(C:vs.length<=100000)(L:(S.1.length:Int)+(p.map λy=>1+sz n y).sum<=90000)(J:S.2.length+(p.flatMap λy=>ar n y).length<=90000)(A:eq w vs a)(D:∀b o,a=some ⟨b,o,none⟩->¬M b):ah 184 #[.pointer (some ⟨d,0,none⟩),.slice a vs.length pc] w λe w'=>∃g,e=.returned (.slice (some ⟨g,0,none⟩) vs.length vs.length)/\Hid (BI (jm ws n) vs base d c S M g w w'):=by
 refine xA (jm ws n) vs base d c S M a vs.length pc w rfl C u A D ?_;intro k i s t G x q v;have B:=(aL.1 s).1;obtain⟨y,h⟩:∃y,p[k]?=some y:=⟨p[k]'(by rw[<-j.1];exact B),aD _⟩;obtain⟨P,Q⟩:=nR (λH i S z=>rm n H i S z) (vs.take k) (p.take k) S (j.take k);have N:=Lh n p k y h;have O:=Aj n p k y h;have K:=q.size;refine ih y i base d l c _ t G x (dJ r q λb e=>m b e) ?_ (by omega) (j.2 k i y s h) (E y (aC h)) F (by omega) (by omega);intro b e f;rcases v b f with f|f
 ·exact m b e f
 ·have:=(r.lt b e).2;omega
theorem tH{base b:Nat}{c:Value}{S:List Wd×cO}{M:Nat->Prop}{w w':World}(a:g8 base b c S M w)(d:ag w w'):vz base b c S M w w':=
 ⟨(a.later d).mono λ_ a=>ae a.1,aT d M⟩
theorem KW(ws:List Wd)(nm:List ByteArray)(n:Nat)(ih:L0 ws nm n)(ps:List (Tm n))(p:Nat)(base i t:Nat)(l:Value)(S:List Wd×cO)(M:Nat->Prop)(w:World)(c:g8 base i l S M w)(F:w.ownsRow t 105 2 l ws.length (aS ws))(P:∀b,l.ownBlock=some b->¬M b)(aR:base<=w.heap.size)(aC:ws[p]?=some (0,(ps.length:Int)))(R:p+1+ps.length<=ws.length)(U:ge ws nm n (bY ws p ps.length) ps)(aD:∀y∈ps,av ⟨n,y⟩)(aP:ps.length<=8)(V:ws.length<=100000)(aF:(S.1.length:Int)+(ps.map λy=>1+sz n y).sum<=90000)(aB:S.2.length+(ps.flatMap λy=>ar n y).length<=90000)(az:look S.2 p=none):ah 187 #[.pointer (some ⟨i,0,none⟩),GL (4,(p:Int))] w λe w'=>e=.returned (GL (4,((gq (jm ws n) (bY ws p ps.length) S).2.1.length:Int)))/\ Hid (vz base i l ((gq (jm ws n) (bY ws p ps.length) S).2.1++(0,(ps.length:Int))::(gq (jm ws n) (bY ws p ps.length) S).1,(p,(gq (jm ws n) (bY ws p ps.length) S).2.1.length)::(gq (jm ws n) (bY ws p ps.length) S).2.2) M w w'):=by
 obtain⟨d,u,Q,_,_⟩:=F.form (by omega);have E:=kD R;obtain⟨a0,a1⟩:=nR (λaL aI S au=>rm n aL aI S au) (bY ws p ps.length) ps S U;refine KT base i l S M p _ d ws.length u ps.length w _ c Q az (by omega) ?_;intro Y j aQ;subst Q;have aU:=(F.lt d rfl).2;have T:Y.ownsRow t 105 2 (.slice (some ⟨d,0,none⟩) ws.length u) ws.length (aS ws):=dE F j;refine(wg t d ws.length u p ps.length ws Y V T aC R).mono ?_;rintro e w' ⟨rfl,pa,pc,rfl,_,aE,o,rfl⟩;refine⟨rfl,o,pc,rfl,?_⟩;have aw:eq w' (bY ws p ps.length) (some ⟨d,o,none⟩):=By aE (by have:=j.size;omega);have O:=rV ws nm n ih (bY ws p ps.length) ps base i t (.slice (some ⟨d,0,none⟩) ws.length u) S _ (some ⟨d,o,none⟩) pc w' (c.later j) T (λb e a=>P b e a.1) (by have:=j.size;omega) U aD V (by omega) aF aB aw (λb aY e a=>P b (by injection e with e;injection e with e;subst e;rfl) a.1);rw[E]at O;refine O.mono ?_;rintro e aK ⟨g,rfl,ab⟩;obtain⟨A,G,s,ad,aj,aM,H⟩:=ab.out;rw[E]at H;have v:∀b,A b->(M b/\b<w.heap.size)\/w'.heap.size<=b:=ad;have aV:=s.size;refine⟨g,rfl,λm=>bk (s.block _ (by omega) (λa=>by omega)) m,?_,?_⟩
 ·obtain⟨aH,x,Z,q,_⟩:=G;exact q.cells.1.1
 refine(N0 base i _ _ A (gq (jm ws n) (bY ws p ps.length) S).1 ps.length ps.length (some ⟨g,0,none⟩) aK G (by have:=j.size;omega) (by omega) (by rw[pn];exact E) (by omega) ?_).mono ?_
 ·intro a2 ay;exact af ⟨_,rfl,(dJ H ay (λb e=>by simp only[Value.ownBlock]at e;obtain rfl:=aq e;exact aj)).cells (g:=g) rfl⟩
 rintro e r ⟨rfl,aa⟩;obtain⟨I,B⟩:=aa.out;have aW:=B.size;have D:∀b,w.heap.size<=b->b<w.heap.size+2->¬A b:=λb f h a=>by
  rcases v b a with k|k<;>omega
 have L:∀b,w.heap.size<=b->b<w.heap.size+2->r.heap[b]?=w'.heap[b]? :=λb f h=>(B.block b (by omega) (D b f h)).trans (s.block b (by omega) (λa=>by omega));refine⟨rfl,λm=>bk (L _ (ai _) (by omega)) m,?_,?_⟩
 ·obtain⟨aH,x,Z,q,_⟩:=I;exact q.cells.1.1
 have bd:ag r r.drew:=(ak _ _).drew;have al:=I.kept (aT bd (λ_=>False)) (λ_ _ _ c=>c);obtain⟨x,am,z,an,ao,C,J,aN,ap⟩:=KV al p (gq (jm ws n) (bY ws p ps.length) S).2.1.length (by omega) (by omega) (by simp only;omega);have aA:∀b,w.heap.size<=b->b<w.heap.size+2->b≠x:=λb f h e=>by
  subst e;rcases J with k|k
  ·exact D _ f h k
  ·omega
 have aX:=C.size;have aO:r.drew.heap.size=r.heap.size:=rfl;have N:∀b,w.heap.size<=b->b<w.heap.size+2->z.heap[b]?=w'.heap[b]? :=λb f h=>(C.block b (by omega) (aA b f h)).trans (L b f h);refine⟨x,z,am,an,λm=>bk (N _ (ai _) (by omega)) m,ap,λax=>(N _ (by omega) (by omega)).trans ax,λX aJ=>?_⟩;have q:=aZ z (w.heap.size+1) 0 X;have aG:=aZ (z.setCell ⟨w.heap.size+1,0,none⟩ X) (w.heap.size+1) 1 aJ;have W:=q.trans aG (λb _ c=>c);refine⟨(ao.kept W ?_).mono ?_,?_⟩
 ·rintro b (a|a) _ rfl
  ·exact D _ (by omega) (by omega) a
  ·omega
 ·rintro b (a|a)
  ·rcases v b a with k|k
   ·exact ae k.1
   ·exact af (by omega)
  ·exact af (by omega)
 ·refine(((((aT j M).trans s ?_).trans B ?_).trans (aT bd (λ_=>False)) ?_).trans C ?_).trans W ?_
  ·exact λb _ a=>a.1
  ·intro b K a;rcases v b a with k|k
   ·exact k.1
   ·omega
  ·exact λ_ _ c=>c.elim
  ·rintro b K rfl;rcases J with k|k
   ·rcases v _ k with k|k
    ·exact k.1
    ·omega
   ·omega
  ·intro b K c;omega
theorem KS(ws:List Wd)(nm:List ByteArray)(n:Nat):L0 ws nm n:=by
 induction n with
 | zero=>intro a o i d p j c h g _ _ _ _ f;exact f.elim
 | succ n ih=>
  intro a o i d p j c h g e z v u f s B G F;have w:=s (bu n a) (by simp[ar,bu]);have y:a.2.2.length<=8:=lF (bu n a) w;have H:(ar (n+1) a).length=1+(a.2.2.flatMap λb=>ar n b).length:=by simp[ar];omega
  by_cases k:a.1.1=4
  ·obtain⟨m,rfl,r,x,A⟩:=iX f k;cases hk:look c.2 m with
   | some D=>
    rw[DL hk];refine(KU i d j c h m D g e hk (by omega)).mono ?_;rintro q E ⟨rfl,l⟩;exact⟨rfl,tH e l⟩
   | none=>
    rw[xB hk r];have q:sz (n+1) a=1+(a.2.2.map λb=>1+sz n b).sum:=by simp only[sz,if_pos k]
    exact KW ws nm n ih a.2.2 m i d p j c h g e z v u r x A (λb C=>aN n a b s C) y B (by omega) (by omega) hk
  ·have t:=ik f k;rw[tL t];refine(IL d o.1 o.2 g t).mono ?_;rintro q E ⟨rfl,l⟩;exact⟨rfl,tH e l⟩
theorem Kn(w:World)(a:Value):g8 w.heap.size (w.heap.size+1) a ([],[]) (λb=>w.heap.size<=b) ((w.alloc (.map #[] 0)).alloc (.cells #[a,.slice none 0 0,.map (some w.heap.size)] 269)):=by
 have e:=oG w Tryz.prog 3 (plainElem (H:=Unit) Tryz.prog 3);have es:∀o,(w.alloc o).heap.size=w.heap.size+1:=λo=>by simp
 have c:=ax (w.alloc (.map #[] 0)) (.cells #[a,.slice none 0 0,.map (some w.heap.size)] 269);rw[es]at c;exact⟨.slice none 0 0,w.heap.size,.map [],c,ee _ _ _ _,e.alloc _,JI,by omega,λb d=>by simp[Value.ownBlock]at d,ai _⟩
def kh(R:List Wd×List Wd×cO)(len g:Nat)(tv:Value)(w w':World):Prop:=
 ag w w'/\w'.ownsRow w.heap.size 105 2 tv R.2.1.length (aS R.2.1)/\w'.ownsRow g 105 2 (.slice (some ⟨g,0,none⟩) len len) len (aS R.1)/\w.heap.size<=g/\tv.ownBlock≠some g
theorem ym(R:List Wd×List Wd×cO)(c:Value)(d:Option Addr)(L f:Nat)(a:Option Addr)(len pc:Nat)(w:World)(i:c=.slice d L f)(b:Hid (ah 184 #[.pointer (some ⟨w.heap.size+1,0,none⟩),.slice a len pc] ((w.alloc (.map #[] 0)).alloc (.cells #[.slice d L f,.slice none 0 0,.map (some w.heap.size)] 269)) λe w'=>∃g tv,e=.returned (.slice (some ⟨g,0,none⟩) len len)/\w'.cell? ⟨w.heap.size+1,1,none⟩=some tv/\Hid (kh R len g tv w w'))):ah 177 #[c,.slice a len pc] w λe w'=>∃g tv,e=.returned (.tuple #[tv,.slice (some ⟨g,0,none⟩) len len])/\Hid (kh R len g tv w w'):=by
 subst i;have j:= @run_makeMap Tryz.prog;go_enter Tryz.func177,Tryz.ntmps177;go_wp2_with fail;refine b.out.mono ?_;rintro e l ⟨g,tv,rfl,k,h⟩;clear b j;go_wp2_with fail;exact ap (v:=.tuple #[tv,.slice (some ⟨g,0,none⟩) len len]) (by simp[results,Tryz.results177,go_sem]) rfl ⟨g,tv,rfl,h⟩
theorem AR(ws:List Wd)(nm:List ByteArray)(n:Nat)(vs:List Wd)(p:List (Tm n))(q:Nat)(d:Value)(a:Option Addr)(pc:Nat)(w:World)(k:w.ownsRow q 105 2 d ws.length (aS ws))(G:ge ws nm n vs p)(F:∀y∈p,av ⟨n,y⟩)(H:ws.length<=100000)(B:vs.length<=100000)(I:(p.map λy=>1+sz n y).sum<=90000)(D:(p.flatMap λy=>ar n y).length<=90000)(h:eq w vs a)(E:∀b o,a=some ⟨b,o,none⟩->b<w.heap.size):ah 177 #[d,.slice a vs.length pc] w λe w'=>∃g tv,e=.returned (.tuple #[tv,.slice (some ⟨g,0,none⟩) vs.length vs.length])/\Hid (kh (gq (jm ws n) vs ([],[])) vs.length g tv w w'):=by
 obtain⟨l,m,r⟩:∃l m,d=.slice l ws.length m:=by
  rcases k.2 with⟨e,x⟩|⟨g,c,R,e,_⟩
  ·exact⟨none,0,by rw[e,x]⟩
  ·exact⟨_,c,e⟩
 refine ym _ d l ws.length m a vs.length pc w r ?_;have f:ag w ((w.alloc (.map #[] 0)).alloc (.cells #[d,.slice none 0 0,.map (some w.heap.size)] 269)):=((ak _ _).alloc (ai _) _).alloc (by simp) _;have z:=Kn w d;have S:((w.alloc (.map #[] 0)).alloc (.cells #[d,.slice none 0 0,.map (some w.heap.size)] 269)).heap.size=w.heap.size+2:=by simp
 rw[<-r];generalize (w.alloc (.map #[] 0)).alloc (.cells #[d,.slice none 0 0,.map (some w.heap.size)] 269)=wA at*;have A:eq wA vs a:=by
  rcases h with h|⟨b,o,e,j,h⟩
  ·exact ae h
  ·exact af ⟨b,o,e,by omega,λt u s=>⟨(am f b _ j).trans (h t u s).1,(am f b _ j).trans (h t u s).2⟩⟩
 refine(rV ws nm n (KS ws nm n) vs p w.heap.size (w.heap.size+1) q d ([],[]) _ a pc wA z (dE k f) (λb e C=>by have:=(k.lt b e).2;omega) (by omega) G F H B (by simpa using I) (by simpa using D) A ?_).mono ?_
 ·intro b o e C;have:=E b o e;omega
 ·rintro e w' ⟨g,rfl,v⟩;obtain⟨Q,M,i,X,N,Y,O⟩:=v.out;obtain⟨tv,Z,P,J,K,T,U,V,L,W⟩:=M;refine⟨g,tv,rfl,J.cells.1.2.1,⟨?_,?_,?_,?_,?_⟩,K,O,by omega,λe=>N (L g e)⟩
  ·exact i.os.trans f.os
  ·exact i.tape.trans f.tape
  ·exact i.output.trans f.output
  ·have:=i.size;omega
  ·intro b j;exact(i.block b (by omega) (by omega)).trans (f.block b j)
theorem zB{base:Nat}{c:cg}{room:Int}{ws:List Wd}{nm:List ByteArray}{M:Nat->Prop}{R:List Wd×List Wd×cO}{len g:Nat}{tv:Value}{w w1 w2:World}(n:du base c room ws nm M w)(i:ag w w1)(r:kh R len g tv w1 w2)(z:base<=w.heap.size):lk base c room R.2.1 nm M w (w2.setCell ⟨c.b,c.o+1,none⟩ tv):=by
 obtain⟨v,l,A,B,C⟩:=r;have s:=i.size;have j:=i.trans (v.mono s);obtain⟨D,t,u,e,x,f,h,y,p,q⟩:=n.later j;have k:=aZ w2 c.b (c.o+1) tv;have m:∀b,tv.ownBlock=some b->w1.heap.size<=b:=λb a=>(l.lt b a).1;refine⟨⟨tv,t,u,e.set1 tv,dJ (qE l (by omega)) k (λb a d=>?_),f.kept k (λb a d=>?_) (λb a d=>?_),ae h.1,λb a=>af (by have:=m b a;omega),λb a=>ae (p b a).1,λb a=>ae (q b a).1⟩,(aT j M).trans k ?_⟩
 ·subst d;have:=m _ a;have:=h.2;omega
 ·subst d;exact mH f.1 e (by decide) a
 ·subst d;exact s8 f e a
 ·rintro b _ rfl;exact h.1
theorem xy(R:List Wd×List Wd×cO)(d:cg)(p:Option Addr)(L r:Nat)(a:Option Addr)(len pc:Nat)(w:World)(k:d.b<w.heap.size)(i:w.cell? ⟨d.b,d.o+1,none⟩=some (.slice p L r))(j:w.frozen? ⟨d.b,d.o+1,none⟩=false)(l:Hid (ah 176 #[.pointer (some ⟨d.b,d.o,none⟩),.slice a len pc] w λe w'=>e=.returned (.bool true)/\ag w w'))(m:Hid (∀w1,ag w w1->ah 177 #[.slice p L r,.slice a len pc] w1 λe w'=>∃g tv,e=.returned (.tuple #[tv,.slice (some ⟨g,0,none⟩) len len])/\Hid (kh R len g tv w1 w'))):ah 165 #[.pointer (some ⟨d.b,d.o,none⟩),.slice a len pc] w λe w'=>∃g tv w1 w2,e=.returned (.tuple #[.slice (some ⟨g,0,none⟩) len len,.int .i64 0])/\w'=w2.setCell ⟨d.b,d.o+1,none⟩ tv/\Hid (ag w w1/\kh R len g tv w1 w2):=by
 go_enter Tryz.func165,Tryz.ntmps165;go_wp2_with fail;refine l.out.mono ?_;rintro e w1 ⟨rfl,f⟩;have HB:=aj f;replace i:=(am f d.b (d.o+1) k).trans i;replace j:=(gh f d.b (d.o+1) k).trans j;have n:d.b<w1.heap.size:=aJ k f.size;clear f l;go_wp2_with fail;refine(m.out w1 HB.out).mono ?_;rintro e w2 ⟨g,tv,rfl,h⟩;obtain⟨q,s,rfl⟩:∃q s,tv=.slice q R.2.1.length s:=by
  rcases h.out.2.1.2 with⟨e,t⟩|⟨g,c,u,e,_⟩
  ·exact⟨none,0,by rw[e,t]⟩
  ·exact⟨_,c,e⟩
 replace i:=(am h.out.1 d.b (d.o+1) n).trans i;replace j:=(gh h.out.1 d.b (d.o+1) n).trans j;clear m;go_wp2_with fail
 go_ret2
 exact⟨g,_,w1,w2,rfl,rfl,HB.out,h.out⟩
theorem ge.mem{ws:List Wd}{nm:List ByteArray}{n:Nat}{l:List Wd}{p:List (Tm n)}(b:ge ws nm n l p){v:Wd}(e:v∈l):∃y∈p,dv ws nm n y v:=by
 obtain⟨a,c⟩:=cM e;have d:a<p.length:=by rw[<-b.1];exact(aL.1 c).1
 exact⟨p[a],jc _,b.2 a v p[a] c (aD d)⟩
def Ev(g c:cO)(a b:Nat):Prop:=∀p,(p<a\/b<=p)->look c p=look g p
theorem FO{d a C:List Wd}{b:Wd}(k:(a++b::C) <+:d):bY d a.length C.length=C:=by
 obtain⟨c,rfl⟩:=k;unfold bY;rw[show a++b::C++c=(a++ [b])++(C++c) by simp];rw[List.drop_left' (by simp),List.take_left' rfl]
end Go.Proofs.YtckamaoibonjcaaGreat
