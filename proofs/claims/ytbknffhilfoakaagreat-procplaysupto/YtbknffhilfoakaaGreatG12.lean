/- What is proved here: plain facts and contracts that the claimed theorem stands on. No condition but those that each names. -/
import Derived.Test.YtbknffhilfoakaaGreatG11
import Derived.Test.YtbknffhilfoakaaGreatG10
import Derived.OrdersHeld
namespace Go.Proofs.YtbknffhilfoakaaGreat
open Go.RowKit
set_option maxRecDepth 100000
set_option maxHeartbeats 4000000
abbrev Ac (n:Nat):Type:=Int×(Tm n×Tm n)×(ByteArray×Int)
abbrev Cl (n:Nat):Type:=(Tm n×Tm n×Tm n)×(Option Addr×Nat)×List (Ac n)
abbrev Bh (n:Nat):Type:=ByteArray×(Option Addr×Nat)×List (Cl n)
def fw (n:Nat) (x:Tm n):List Value:=kG (dF n x)
def oh (n:Nat) (a:Ac n):List Value:=.int .i64 a.1::(fw n a.2.1.1++fw n a.2.1.2++ [.string a.2.2.1,.int .i64 a.2.2.2])
def jS (n:Nat) (c:Cl n):List Value:=fw n c.1.1++fw n c.1.2.1++(.slice c.2.1.1 c.2.2.length c.2.1.2::fw n c.1.2.2)
def EC (n:Nat) (b:Bh n):List Value:=[.string b.1,.slice b.2.1.1 b.2.2.length b.2.1.2]
def Lay {α:Type} (B:Nat) (w:World) (k:Nat) (f:α->List Value) (I:α->Prop) (a:Option Addr) (l:List α):Prop:=
 l=[]∨∃b o,a=some ⟨b,o,none⟩/\b<B/\∀(i:Nat) (y:α),l[i]? =some y->(∀(j:Nat) (u:Value),(f y)[j]? =some u->w.cell? ⟨b,o+i*k+j,none⟩=some u)/\I y
def AcIn (n:Nat) (B:Nat) (w:World) (a:Ac n):Prop:=dZ a.1/\In B w n a.2.1.1/\In B w n a.2.1.2/\a.2.2.1.size<=maxLen/\dZ a.2.2.2
def jH (n:Nat) (B:Nat) (w:World) (c:Cl n):Prop:=(In B w n c.1.1/\In B w n c.1.2.1/\In B w n c.1.2.2)/\(c.2.2.length<=c.2.1.2/\c.2.1.2<=maxLen)/\Lay B w 11 (oh n) (AcIn n B w) c.2.1.1 c.2.2
def Bj (n:Nat) (B:Nat) (w:World) (b:Bh n):Prop:=b.1.size<=maxLen/\(b.2.2.length<=b.2.1.2/\b.2.1.2<=maxLen)/\Lay B w 13 (jS n) (jH n B w) b.2.1.1 b.2.2
def IE {α:Type} (O:α->Prop) (P:Nat->Prop) (a:Option Addr) (l:List α):Prop:=l=[]∨∃b o,a=some ⟨b,o,none⟩/\P b/\∀y∈l,O y
def I5 (n:Nat) (P:Nat->Prop) (a:Ac n):Prop:=Off P n a.2.1.1/\Off P n a.2.1.2
def IZ (n:Nat) (P:Nat->Prop) (c:Cl n):Prop:=(Off P n c.1.1/\Off P n c.1.2.1/\Off P n c.1.2.2)/\IE (I5 n P) P c.2.1.1 c.2.2
def JV (n:Nat) (P:Nat->Prop) (b:Bh n):Prop:=IE (IZ n P) P b.2.1.1 b.2.2
def Stays {α:Type} (I:Nat->World->α->Prop) (O:(Nat->Prop)->α->Prop):Prop:=
 (∀(P Q:Nat->Prop) (x:α),(∀b,P b->Q b)->O P x->O Q x)/\(∀(P:Nat->Prop) (B:Nat) (w:World) (x:α),O P x->I B w x->O (fun b=>P b/\b<B) x)/\
 (∀(P:Nat->Prop) (B:Nat) (w w':World) (x:α),(∀b,P b->w'.heap[b]? =w.heap[b]?)->O P x->I B w x->I B w' x)/\(∀(B C:Nat) (w:World) (x:α),B<=C->I B w x->I C w x)/\
 (∀(B:Nat) (w:World) (x:α),I B w x->O (fun b=>b<B) x)
theorem iR {B:Nat} {w:World}:{n:Nat}->{x:Tm n}->In B w n x->Off (fun b=>b<B) n x
 | 0,_,k=>k
 | _+1,_,k=>by
  obtain⟨_,k1⟩:=k
  rcases k1 with k1|⟨b,o,e,hb,k1⟩
  ·exact Or.inl k1
  ·exact Or.inr ⟨b,o,e,hb,fun i y hy=>iR (k1 i y hy).2⟩
theorem aX (n:Nat):Stays (fun B w x=>In B w n x) (fun P x=>Off P n x):=
 ⟨fun _ _ _ h k=>k.mono h,fun _ _ _ _ h k=>In.offB h k,fun _ _ _ _ _ h p k=>In.off h p k,fun _ _ _ _ h k=>k.mono h,fun _ _ _ k=>iR k⟩
theorem je (n:Nat):Stays (AcIn n) (I5 n):=by
 obtain⟨t1,t2,t3,t4,t5⟩:=aX n
 exact⟨fun P Q x h k=>⟨t1 P Q _ h k.1,t1 P Q _ h k.2⟩,fun P B w x h k=>⟨t2 P B w _ h.1 k.2.1,t2 P B w _ h.2 k.2.2.1⟩,
  fun P B w w' x h p k=>⟨k.1,t3 P B w w' _ h p.1 k.2.1,t3 P B w w' _ h p.2 k.2.2.1,k.2.2.2⟩,fun B C w x h k=>⟨k.1,t4 B C w _ h k.2.1,t4 B C w _ h k.2.2.1,k.2.2.2⟩,
  fun B w x k=>⟨t5 B w _ k.2.1,t5 B w _ k.2.2.1⟩⟩
theorem ed {α:Type} {I:Nat->World->α->Prop} {O:(Nat->Prop)->α->Prop} (h:Stays I O) (k:Nat) (f:α->List Value) (a:Option Addr):
    Stays (fun B w l=>Lay B w k f (I B w) a l) (fun P l=>IE (O P) P a l):=by
 obtain⟨t1,t2,t3,t4,t5⟩:=h
 refine⟨fun P Q x h k=> ?_,fun P B w x h k=> ?_,fun P B w w' x h p k=> ?_,fun B C w x h k=> ?_,fun B w x k=> ?_⟩
 ·rcases k with k|⟨b,o,e,hb,k⟩
  ·exact Or.inl k
  ·exact Or.inr ⟨b,o,e,h b hb,fun y hy=>t1 P Q y h (k y hy)⟩
 ·rcases k with k|⟨b,o,e,hb,k⟩
  ·exact Or.inl k
  ·rcases h with h|⟨b',o',e',hb',h⟩
   ·exact Or.inl h
   ·rw[e]at e'
    simp at e'
    obtain⟨rfl,rfl⟩:=e'
    refine Or.inr ⟨b,o,e,⟨hb',hb⟩,fun y hy=> ?_⟩
    obtain⟨i,hi⟩:=List.getElem?_of_mem hy
    exact t2 P B w y (h y hy) (k i y hi).2
 ·rcases k with k|⟨b,o,e,hb,k⟩
  ·exact Or.inl k
  ·rcases p with p|⟨b',o',e',hb',p⟩
   ·exact Or.inl p
   ·rw[e]at e'
    simp at e'
    obtain⟨rfl,rfl⟩:=e'
    exact Or.inr ⟨b,o,e,hb,fun i y hy=>⟨fun j u hj=>(aK (h b hb') _).trans ((k i y hy).1 j u hj),t3 P B w w' y h (p y (List.mem_of_getElem? hy)) (k i y hy).2⟩⟩
 ·rcases k with k|⟨b,o,e,hb,k⟩
  ·exact Or.inl k
  ·exact Or.inr ⟨b,o,e,by omega,fun i y hy=>⟨(k i y hy).1,t4 B C w y h (k i y hy).2⟩⟩
 ·rcases k with k|⟨b,o,e,hb,k⟩
  ·exact Or.inl k
  ·refine Or.inr ⟨b,o,e,hb,fun y hy=> ?_⟩
   obtain⟨i,hi⟩:=List.getElem?_of_mem hy
   exact t5 B w y (k i y hi).2
theorem dK (n:Nat):Stays (jH n) (IZ n):=by
 obtain⟨t1,t2,t3,t4,t5⟩:=aX n
 have L:=fun a=>ed (je n) 11 (oh n) a
 exact⟨fun P Q x h k=>⟨⟨t1 P Q _ h k.1.1,t1 P Q _ h k.1.2.1,t1 P Q _ h k.1.2.2⟩,(L _).1 P Q _ h k.2⟩,
  fun P B w x h k=>⟨⟨t2 P B w _ h.1.1 k.1.1,t2 P B w _ h.1.2.1 k.1.2.1,t2 P B w _ h.1.2.2 k.1.2.2⟩,(L _).2.1 P B w _ h.2 k.2.2⟩,
  fun P B w w' x h p k=>⟨⟨t3 P B w w' _ h p.1.1 k.1.1,t3 P B w w' _ h p.1.2.1 k.1.2.1,t3 P B w w' _ h p.1.2.2 k.1.2.2⟩,k.2.1,(L _).2.2.1 P B w w' _ h p.2 k.2.2⟩,
  fun B C w x h k=>⟨⟨t4 B C w _ h k.1.1,t4 B C w _ h k.1.2.1,t4 B C w _ h k.1.2.2⟩,k.2.1,(L _).2.2.2.1 B C w _ h k.2.2⟩,
  fun B w x k=>⟨⟨t5 B w _ k.1.1,t5 B w _ k.1.2.1,t5 B w _ k.1.2.2⟩,(L _).2.2.2.2 B w _ k.2.2⟩⟩
theorem sZ (n:Nat):Stays (Bj n) (JV n):=by
 have L:=fun a=>ed (dK n) 13 (jS n) a
 exact⟨fun P Q x h k=>(L _).1 P Q _ h k,fun P B w x h k=>(L _).2.1 P B w _ h k.2.2,fun P B w w' x h p k=>⟨k.1,k.2.1,(L _).2.2.1 P B w w' _ h p k.2.2⟩,
  fun B C w x h k=>⟨k.1,k.2.1,(L _).2.2.2.1 B C w _ h k.2.2⟩,fun B w x k=>(L _).2.2.2.2 B w _ k.2.2⟩
def PgIn (n:Nat) (B:Nat) (w:World) (a:Option Addr) (l:List (Bh n)):Prop:=Lay B w 2 (EC n) (Bj n B w) a l
theorem Stays.below {α:Type} {I:Nat->World->α->Prop} {O:(Nat->Prop)->α->Prop} (h:Stays I O) {B:Nat} {w w':World} (hb:Below B w w') {x:α} (k:I B w x):I B w' x:=
 h.2.2.1 (fun b=>b<B) B w w' x (fun b hb'=>hb.block b hb') (h.2.2.2.2 B w x k) k
theorem Stays.mono {α:Type} {I:Nat->World->α->Prop} {O:(Nat->Prop)->α->Prop} (h:Stays I O) {B C:Nat} (hb:B<=C) {w:World} {x:α} (k:I B w x):I C w x:=h.2.2.2.1 B C w x hb k
theorem PgIn.below {n B:Nat} {w w':World} {a:Option Addr} {l:List (Bh n)} (hb:Below B w w') (k:PgIn n B w a l):PgIn n B w' a l:=(ed (sZ n) 2 (EC n) a).below hb k
theorem PgIn.mono {n B C:Nat} (h:B<=C) {w:World} {a:Option Addr} {l:List (Bh n)} (k:PgIn n B w a l):PgIn n C w a l:=(ed (sZ n) 2 (EC n) a).mono h k
def Grow {α:Type} (I:Nat->World->α->Prop) (O:(Nat->Prop)->α->Prop) (f:α->List Value) (k:Nat) (T:TypeId) (B base:Nat) (xs:List α) (v:Value) (w0 wr:World):Prop:=
 Below base w0 wr/\wr.ownsRow base T k v xs.length (xs.flatMap f)/\∀y∈xs,I wr.heap.size wr y/\O (fun b=>(b<B∨base<=b)/\v.ownBlock≠some b) y
theorem Grow.nil {α:Type} {I:Nat->World->α->Prop} {O:(Nat->Prop)->α->Prop} {f:α->List Value} {k:Nat} {T:TypeId} {B base:Nat} (w:World):Grow I O f k T B base [] (.slice none 0 0) w w:=
 ⟨Below.refl _ _,World.ownsRow_nil _ _ _ _,fun y hy=>by cases hy⟩
theorem Grow.later {α:Type} {I:Nat->World->α->Prop} {O:(Nat->Prop)->α->Prop} (hS:Stays I O) {f:α->List Value} {k:Nat} {T:TypeId} {B base:Nat} {xs:List α} {v:Value} {w0 wr w1:World} (h:Grow I O f k T B base xs v w0 wr) (hb:base<=wr.heap.size) (h1:Below wr.heap.size wr w1):Grow I O f k T B base xs v w0 w1:=by
 obtain⟨k1,k2,k3⟩:=h
 exact⟨k1.trans (h1.mono hb),own_below k2 h1,fun y hy=>⟨hS.mono h1.size (hS.below h1 (k3 y hy).1),(k3 y hy).2⟩⟩
theorem Grow.step {α:Type} {I:Nat->World->α->Prop} {O:(Nat->Prop)->α->Prop} (hS:Stays I O) {f:α->List Value} {k:Nat} {T:TypeId} {B base:Nat} {xs:List α} {v:Value} {w0 wr w1 w2:World} (h:Grow I O f k T B base xs v w0 wr) (hB:B<=base) (hb:base<=wr.heap.size) (h1:Below wr.heap.size wr w1)
    (X:α) (hX:I w1.heap.size w1 X) (hO:O (fun b=>b<B∨wr.heap.size<=b) X) {g c:Nat}
    (hown:w2.ownsRow base T k (.slice (some ⟨g,0,none⟩) (xs.length+1) c) (xs.length+1) (xs.flatMap f++f X)) (hg:w1.grownBy w2 v.ownBlock) (hat:v.ownBlock=some g∨g=w1.heap.size):
    Grow I O f k T B base (xs++ [X]) (.slice (some ⟨g,0,none⟩) (xs.length+1) c) w0 w2:=by
 obtain⟨k1,k2,k3⟩:=h
 have hvown:∀b,v.ownBlock=some b->base<=b/\b<wr.heap.size:=fun b e=>k2.lt b e
 have hold:∀b,b<w1.heap.size->v.ownBlock≠some b->w2.heap[b]? =w1.heap[b]? :=fun b hb hne=>hg.block b hb (fun e=>hne e.symm)
 have h1s:=h1.size
 have hgs:=hg.size
 refine⟨⟨(hg.os.trans h1.os).trans k1.os,(hg.tape.trans h1.tape).trans k1.tape,(hg.output.trans h1.output).trans k1.output,by have:=k1.size;omega,fun b hb'=> ?_⟩, ?_, ?_⟩
 ·exact(hold b (by omega) (fun e=>by have:=(hvown b e).1;omega)).trans ((h1.block b (by omega)).trans (k1.block b hb'))
 ·have e1:(xs++ [X]).length=xs.length+1:=by simp
  have e2:(xs++ [X]).flatMap f=xs.flatMap f++f X:=by simp
  rw[e1,e2]
  exact hown
 ·intro y hy
  rcases List.mem_append.1 hy with hy|hy
  ·obtain⟨j1,j2⟩:=k3 y hy
   have j3:=hS.2.1 _ _ _ _ j2 j1
   refine⟨hS.mono hgs (hS.2.2.1 _ _ w1 w2 y (fun b hb'=>hold b ?_ hb'.1.2) j3 (hS.mono h1s (hS.below h1 j1))),hS.1 _ _ y (fun b hb'=>⟨hb'.1.1, ?_⟩) j3⟩
   ·have:=hb'.2
    omega
   ·simp only[Value.ownBlock]
    intro e
    injection e with e
    rcases hat with e2|e2
    ·exact hb'.1.2 (by rw[e2,e])
    ·have:=hb'.2
     omega
  ·simp only[List.mem_singleton]at hy
   subst hy
   have j3:=hS.2.1 _ _ _ _ hO hX
   refine⟨hS.mono hgs (hS.2.2.1 _ _ w1 w2 y (fun b hb'=>hold b hb'.2 (fun e=> ?_)) j3 hX),hS.1 _ _ y (fun b hb'=>⟨?_, ?_⟩) j3⟩
   ·have:=hvown b e
    have:=hb'.1
    omega
   ·have:=hb'.1
    omega
   ·simp only[Value.ownBlock]
    intro e
    injection e with e
    rcases hat with e2|e2
    ·have:=hvown g e2
     have:=hb'.1
     omega
    ·have:=hb'.2
     omega
theorem Grow.lit {α:Type} {I:Nat->World->α->Prop} {O:(Nat->Prop)->α->Prop} (hS:Stays I O) {f:α->List Value} {k:Nat} {T:TypeId} {B base:Nat} (xs:List α) {w0 w1:World} {cs:Array Value} (hcs:cs.toList=xs.flatMap f) (hk:∀x,(f x).length=k) (hm:xs.length<=maxLen) (hb:base<=w1.heap.size) (h1:Below base w0 w1)
    (hX:∀y∈xs,I w1.heap.size w1 y/\O (fun b=>b<B∨base<=b) y):
    Grow I O f k T B base xs (.slice (some ⟨w1.heap.size,0,none⟩) xs.length xs.length) w0 (w1.alloc (.cells cs T)):=by
 have hal:Below w1.heap.size w1 (w1.alloc (.cells cs T)):=(Below.refl _ _).alloc (Nat.le_refl _) _
 have hl:(xs.flatMap f).length=xs.length*k:=by
  clear hcs hX hm
  induction xs with
  | nil=>simp
  | cons x xs ih=>rw[List.flatMap_cons,List.length_append,ih,hk,List.length_cons,Nat.succ_mul];omega
 have hcz:cs.size=xs.length*k:=by rw[<-hl,<-hcs];simp
 refine⟨h1.trans (hal.mono hb),⟨by rw[hl],Or.inr ⟨w1.heap.size,xs.length,cs,rfl,hb,heap_alloc_new w1 _,Nat.le_refl _,hm,by omega, ?_⟩⟩,fun y hy=>⟨hS.mono hal.size (hS.below hal (hX y hy).1), ?_⟩⟩
 ·rw[hcs,List.take_of_length_le (by omega)]
 ·refine hS.1 _ _ y (fun b hb'=>⟨hb'.1, ?_⟩) (hS.2.1 _ _ _ _ (hX y hy).2 (hX y hy).1)
  simp only[Value.ownBlock]
  intro e
  injection e with e
  have:=hb'.2
  omega
theorem Grow.lay {α:Type} {I:Nat->World->α->Prop} {O:(Nat->Prop)->α->Prop} (hS:Stays I O) {f:α->List Value} {k:Nat} {T:TypeId} {B base:Nat} {xs:List α} {v:Value} {w0 wr:World} (hk:∀x,(f x).length=k) (h:Grow I O f k T B base xs v w0 wr):
    ∃a c,v=.slice a xs.length c/\(xs.length<=c/\c<=maxLen)/\Lay wr.heap.size wr k f (I wr.heap.size wr) a xs/\IE (O (fun b=>b<B∨base<=b)) (fun b=>b<B∨base<=b) a xs:=by
 obtain⟨k1,k2,k3⟩:=h
 rcases k2.2 with⟨e,h0⟩|⟨g,cap,cur,e,hgb,hh,hc,hm,hz,he⟩
 ·have hx0:xs=[]:=List.eq_nil_of_length_eq_zero (by omega)
  subst hx0
  exact⟨none,0,e,⟨Nat.le_refl _,Nat.zero_le _⟩,Or.inl rfl,Or.inl rfl⟩
 ·refine⟨some ⟨g,0,none⟩,cap,e,⟨hc,hm⟩,Or.inr ⟨g,0,rfl,(Array.getElem?_eq_some_iff.1 hh).1,fun i y hy=>⟨fun j u hj=> ?_,(k3 y (List.mem_of_getElem? hy)).1⟩⟩,Or.inr ⟨g,0,rfl,Or.inr hgb,fun y hy=>hS.1 _ _ y (fun b hb=>hb.1) (k3 y hy).2⟩⟩
  have hat:∀(l:List α) (i j:Nat) (y:α) (u:Value),l[i]? =some y->(f y)[j]? =some u->(l.flatMap f)[i*k+j]? =some u:=by
   intro l
   induction l with
   | nil=>intro i j y u h;simp at h
   | cons x l ih=>
    intro i j y u h hj
    rw[List.flatMap_cons]
    cases i with
    | zero=>
     simp at h
     subst h
     rw[List.getElem?_append_left (by have:=(List.getElem?_eq_some_iff.1 hj).1;omega)]
     simpa using hj
    | succ i=>
     rw[List.getElem?_append_right (by rw[hk,Nat.succ_mul];omega),hk,Nat.succ_mul,show i*k+k+j-k=i*k+j by omega]
     exact ih i j y u (by simpa using h) hj
  have h1:=hat xs i j y u hy hj
  have hlt:=(List.getElem?_eq_some_iff.1 h1).1
  rw[<-he]at h1
  rw[List.getElem?_take]at h1
  split at h1
  ·rw[Nat.zero_add]
   simp only[World.cell?,hh]
   rw[Array.getElem?_toList]at h1
   simpa using h1
  ·cases h1
def FQ (o1:Option (List An)) (f:List An->Option (List An)) (w:World) (e:Ending) (w':World):Prop:=
 ∃a len c r,e=.returned (.tuple #[.slice a len c,.bool r])/\Hid (Below w.heap.size w w'/\(o1=none->r=false)/\∀b,o1=some b->∃l1:List (Tm (top b)),aj (fun x y=>same (top b) x (top b) y) l1 (qz b)=true/\(f (jZ (top b) l1)=none->r=false)/\
  ∀b2,f (jZ (top b) l1)=some b2->r=true/\len=4/\b2.length=4/\∃w1 l,w.heap.size<=w1.heap.size/\CpRow (top b2) (qz b2) w1 w' a c l)
theorem AY (p0 p1 q0 q1 r0 r1 s0 s1 t0 t1:Int) (p2 q2 r2 s2 t2:ByteArray) (pa qa ra sa ta ca:Option Addr) (pl pc ql qc rl rc sl sc tl tc cl cc:Nat) (o1:Option (List An)) (f:List An->Option (List An)) (w:World)
    (H1:Hid (∀W1 W,Below w.heap.size w W1->CpRow 1 (List.replicate 4 dM) W1 W (some ⟨W1.heap.size,0,none⟩) 4 (List.replicate 4 dM)->Calls Tryz.prog 80 #[.agg #[.int .i64 p0,.int .i64 p1,.string p2,.slice pa pl pc],.agg #[.int .i64 s0,.int .i64 s1,.string s2,.slice sa sl sc],.slice (some ⟨W1.heap.size,0,none⟩) 4 4] W (wN 0 o1 W)))
    (H2:Hid (∀(b:List An) (l:List (Tm (top b))) (a:Option Addr) (c:Nat) (W1 W:World),Below w.heap.size w W->o1=some b->b.length=4->CpRow (top b) (qz b) W1 W a c l->Calls Tryz.prog 80 #[.agg #[.int .i64 q0,.int .i64 q1,.string q2,.slice qa ql qc],.agg #[.int .i64 t0,.int .i64 t1,.string t2,.slice ta tl tc],.slice a 4 c] W (wN 0 (f (jZ (top b) l)) W))):
    Calls Tryz.prog 63 #[.agg #[.int .i64 p0,.int .i64 p1,.string p2,.slice pa pl pc,.int .i64 q0,.int .i64 q1,.string q2,.slice qa ql qc,.slice ca cl cc,.int .i64 r0,.int .i64 r1,.string r2,.slice ra rl rc],.agg #[.int .i64 s0,.int .i64 s1,.string s2,.slice sa sl sc],.agg #[.int .i64 t0,.int .i64 t1,.string t2,.slice ta tl tc]] w (FQ o1 f w):=by
 go_enter Tryz.func63,Tryz.ntmps63
 go_wp2_with fail
 have HW:Hid (∃w0 g0 g1 g2,(w0=((w.alloc (.cells #[.int .i64 p0,.int .i64 p1,.string p2,.slice pa pl pc,.int .i64 q0,.int .i64 q1,.string q2,.slice qa ql qc,.slice ca cl cc,.int .i64 r0,.int .i64 r1,.string r2,.slice ra rl rc] 90)).alloc (.cells #[.int .i64 s0,.int .i64 s1,.string s2,.slice sa sl sc] 25)).alloc (.cells #[.int .i64 t0,.int .i64 t1,.string t2,.slice ta tl tc] 25)/\g0=w.heap.size/\g1=w.heap.size+1/\g2=w.heap.size+2)/\Below w.heap.size w w0/\∀W,Below w0.heap.size w0 W->(W.cell? ⟨g0,0,none⟩=some (.int .i64 p0)/\W.cell? ⟨g0,1,none⟩=some (.int .i64 p1)/\W.cell? ⟨g0,2,none⟩=some (.string p2)/\W.cell? ⟨g0,3,none⟩=some (.slice pa pl pc))/\(W.cell? ⟨g0,4,none⟩=some (.int .i64 q0)/\W.cell? ⟨g0,5,none⟩=some (.int .i64 q1)/\W.cell? ⟨g0,6,none⟩=some (.string q2)/\W.cell? ⟨g0,7,none⟩=some (.slice qa ql qc))/\(W.cell? ⟨g1,0,none⟩=some (.int .i64 s0)/\W.cell? ⟨g1,1,none⟩=some (.int .i64 s1)/\W.cell? ⟨g1,2,none⟩=some (.string s2)/\W.cell? ⟨g1,3,none⟩=some (.slice sa sl sc))/\(W.cell? ⟨g2,0,none⟩=some (.int .i64 t0)/\W.cell? ⟨g2,1,none⟩=some (.int .i64 t1)/\W.cell? ⟨g2,2,none⟩=some (.string t2)/\W.cell? ⟨g2,3,none⟩=some (.slice ta tl tc))):=by
  have hs1:(w.alloc (.cells #[.int .i64 p0,.int .i64 p1,.string p2,.slice pa pl pc,.int .i64 q0,.int .i64 q1,.string q2,.slice qa ql qc,.slice ca cl cc,.int .i64 r0,.int .i64 r1,.string r2,.slice ra rl rc] 90)).heap.size=w.heap.size+1:=by simp
  have hs2:((w.alloc (.cells #[.int .i64 p0,.int .i64 p1,.string p2,.slice pa pl pc,.int .i64 q0,.int .i64 q1,.string q2,.slice qa ql qc,.slice ca cl cc,.int .i64 r0,.int .i64 r1,.string r2,.slice ra rl rc] 90)).alloc (.cells #[.int .i64 s0,.int .i64 s1,.string s2,.slice sa sl sc] 25)).heap.size=w.heap.size+2:=by simp
  refine⟨_,_,_,_,⟨rfl,rfl,rfl,rfl⟩,(((Below.refl _ _).alloc (Nat.le_refl _) _).alloc (by simp) _).alloc (by simp;omega) _,fun W hW=> ?_⟩
  have e0:=(hW.block w.heap.size (by simp;omega)).trans ((((Below.refl _ _).alloc (Nat.le_refl _) _).block w.heap.size (by simp;omega)).trans ((((Below.refl _ _).alloc (Nat.le_refl _) _).block w.heap.size (by simp)).trans (heap_alloc_new w (.cells #[.int .i64 p0,.int .i64 p1,.string p2,.slice pa pl pc,.int .i64 q0,.int .i64 q1,.string q2,.slice qa ql qc,.slice ca cl cc,.int .i64 r0,.int .i64 r1,.string r2,.slice ra rl rc] 90))))
  have n1:=heap_alloc_new (w.alloc (.cells #[.int .i64 p0,.int .i64 p1,.string p2,.slice pa pl pc,.int .i64 q0,.int .i64 q1,.string q2,.slice qa ql qc,.slice ca cl cc,.int .i64 r0,.int .i64 r1,.string r2,.slice ra rl rc] 90)) (.cells #[.int .i64 s0,.int .i64 s1,.string s2,.slice sa sl sc] 25)
  rw[hs1]at n1
  have e1:=(hW.block (w.heap.size+1) (by simp)).trans ((((Below.refl _ _).alloc (Nat.le_refl _) _).block (w.heap.size+1) (by simp)).trans n1)
  have n2:=heap_alloc_new ((w.alloc (.cells #[.int .i64 p0,.int .i64 p1,.string p2,.slice pa pl pc,.int .i64 q0,.int .i64 q1,.string q2,.slice qa ql qc,.slice ca cl cc,.int .i64 r0,.int .i64 r1,.string r2,.slice ra rl rc] 90)).alloc (.cells #[.int .i64 s0,.int .i64 s1,.string s2,.slice sa sl sc] 25)) (.cells #[.int .i64 t0,.int .i64 t1,.string t2,.slice ta tl tc] 25)
  rw[hs2]at n2
  have e2:=(hW.block (w.heap.size+2) (by simp)).trans n2
  exact⟨⟨ae e0 0,ae e0 1,ae e0 2,ae e0 3⟩,⟨ae e0 4,ae e0 5,ae e0 6,ae e0 7⟩,⟨ae e1 0,ae e1 1,ae e1 2,ae e1 3⟩,ae e2 0,ae e2 1,ae e2 2,ae e2 3⟩
 obtain⟨w0,g0,g1,g2,⟨hw0,hg0,hg1,hg2⟩,HB0,HC⟩:=HW.out
 rw[<-hw0,<-hg2,<-hg1,<-hg0]
 replace HB0:=hide HB0
 replace HC:=hide HC
 clear hw0 hg0 hg1 hg2 HW
 obtain⟨⟨x0,x1,x2,x3⟩,_,⟨y0,y1,y2,y3⟩,_⟩:=HC.out w0 (Below.refl _ _)
 have HD0:Hid (Below w0.heap.size w0 w0.drew):=(Below.refl _ _).drew
 have HKS:Hid (∀W,Below w0.heap.size w0 W->(W.cell? ⟨g0,0,none⟩=some (.int .i64 p0)/\W.cell? ⟨g0,1,none⟩=some (.int .i64 p1)/\W.cell? ⟨g0,2,none⟩=some (.string p2)/\W.cell? ⟨g0,3,none⟩=some (.slice pa pl pc))/\(W.cell? ⟨g1,0,none⟩=some (.int .i64 s0)/\W.cell? ⟨g1,1,none⟩=some (.int .i64 s1)/\W.cell? ⟨g1,2,none⟩=some (.string s2)/\W.cell? ⟨g1,3,none⟩=some (.slice sa sl sc))):=fun W hW=>⟨(HC.out W hW).1,(HC.out W hW).2.2.1⟩
 go_region_held3 (fun W=>(W.cell? ⟨g0,0,none⟩=some (.int .i64 p0)/\W.cell? ⟨g0,1,none⟩=some (.int .i64 p1)/\W.cell? ⟨g0,2,none⟩=some (.string p2)/\W.cell? ⟨g0,3,none⟩=some (.slice pa pl pc))/\(W.cell? ⟨g1,0,none⟩=some (.int .i64 s0)/\W.cell? ⟨g1,1,none⟩=some (.int .i64 s1)/\W.cell? ⟨g1,2,none⟩=some (.string s2)/\W.cell? ⟨g1,3,none⟩=some (.slice sa sl sc)))
  (first|(go_keep;done)|exact HKS.out _ HD0.out|exact HKS.out _ HB2.out|exact HKS.out _ HB1.out) ((first
   | (go_at_call 81;refine(xH _).mono ?_;rintro e w1 ⟨rfl,HN⟩;have HB1:=hide (HD0.out.trans (HN.out.1.mono HD0.out.size)))
   | (go_at_call 80;refine(H1.out _ _ (HB0.out.trans (HD0.out.mono HB0.out.size)) HN.out).mono ?_;rintro e w2 ⟨a2,len2,c2,r2',rfl,HF⟩;have HB2:=hide (HB1.out.trans (HF.out.1.mono HB1.out.size)))))
 have HBF:=hide (HB0.out.trans (HB2.out.mono HB0.out.size))
 clear x0 x1 x2 x3 y0 y1 y2 y3 HKS HN HB1 HD0 H1
 cases o1 with
 | none=>
  obtain⟨rfl,rfl⟩:len2=0/\r2'=false:=HF.out.2.1 (by simp)
  clear HF
  go_wp2_with fail
  go_ret2
  exact⟨none,0,0,false,rfl,HBF.out,fun _=>rfl,fun b hb=>by cases hb⟩
 | some b=>
  obtain⟨hr,hl,h4,w1',l1,hw1,hcp⟩:=HF.out.2.2 b trivial rfl
  subst hr hl
  have HT:=hide (H2.out b l1 a2 c2 w1' w2 HBF.out rfl h4 hcp)
  have HCP:=hide hcp.2.2.2.2.1
  obtain⟨_,⟨x0,x1,x2,x3⟩,_,y0,y1,y2,y3⟩:=HC.out w2 HB2.out
  clear hcp HF h4 hw1
  go_wp2_with fail
  refine HT.out.mono ?_
  rintro e w3 ⟨a3,len3,c3,r3,rfl,HF3⟩
  go_wp2_with fail
  go_ret2
  refine⟨a3,len3,c3,r3,rfl,HBF.out.trans (HF3.out.1.mono HBF.out.size),(fun h=>by cases h),fun b' hb'=> ?_⟩
  cases hb'
  refine⟨l1,HCP.out,fun hn=>(HF3.out.2.1 (by simp[hn])).2,fun b2 hb2=> ?_⟩
  obtain⟨k1,k2,k3,wz,lz,kz,kc⟩:=HF3.out.2.2 b2 trivial hb2
  exact⟨k1,k2,k3,wz,lz,Nat.le_trans HBF.out.size kz,kc⟩
theorem IU {n:Nat} {p l:List (Tm n)} {w w':World} {a:Option Addr} {c:Nat} (h:CpRow n p w w' a c l):Lies w'.heap.size w' n l a:=by
 obtain⟨_,_,_,_,_,h6⟩:=h
 rcases h6 with e|⟨b,o,e,_,h2,h3⟩
 ·exact Or.inl e
 ·exact Or.inr ⟨b,o,e,h2,fun i y hy=>⟨(h3 i y hy).1,(h3 i y hy).2.1⟩⟩
theorem jO {y:An} (h:xZ y):ak y:=ax.2 (aN.1 h.1).1
theorem any_ok:∀y∈jZ 1 (List.replicate 4 dM),xZ y:=by
 intro y hy
 simp only[jZ,List.mem_map,List.mem_replicate]at hy
 obtain⟨x,⟨_,rfl⟩,rfl⟩:=hy
 exact⟨vg,Or.inl rfl⟩
theorem eP {n:Nat} {x:Tm n} (h:aP n x=0):(nodes n x).length<=2097152:=Nat.le_trans (jC h) (by omega)
theorem Dx (n m k:Nat) (c:Cl (n+1)) (s:Tm (m+1)) (t:Tm (k+1)) (B:Nat) (w:World) (hc:jH (n+1) B w c) (hs:In B w (m+1) s) (ht:In B w (k+1) t) (hB:B<=w.heap.size)
    (h1:aP (n+1) c.1.1=0) (h2:aP (n+1) c.1.2.1=0) (h3:aP (m+1) s=0) (h4:ic (m+1) s=true) (h5:aP (k+1) t=0) (h6:ic (k+1) t=true):
    Calls Tryz.prog 63 #[.agg (jS (n+1) c).toArray,val (m+1) s,val (k+1) t] w (FQ (fit (n+1) c.1.1 (m+1) s (jZ 1 (List.replicate 4 dM))) (fit (n+1) c.1.2.1 (k+1) t) w):=by
 refine AY c.1.1.1.1 c.1.1.1.2.1 c.1.2.1.1.1 c.1.2.1.1.2.1 c.1.2.2.1.1 c.1.2.2.1.2.1 s.1.1 s.1.2.1 t.1.1 t.1.2.1 c.1.1.1.2.2 c.1.2.1.1.2.2 c.1.2.2.1.2.2 s.1.2.2 t.1.2.2 c.1.1.2.1.1 c.1.2.1.2.1.1 c.1.2.2.2.1.1 s.2.1.1 t.2.1.1 c.2.1.1
  c.1.1.2.2.length c.1.1.2.1.2 c.1.2.1.2.2.length c.1.2.1.2.1.2 c.1.2.2.2.2.length c.1.2.2.2.1.2 s.2.2.length s.2.1.2 t.2.2.length t.2.1.2 c.2.2.length c.2.1.2 _ _ w ?_ ?_
 ·intro W1 W hW1 hcp
  have hb:=hW1.trans (hcp.1.mono hW1.size)
  have h:=uL (n+1) (m+1) 1 c.1.1 s (List.replicate 4 dM) (some ⟨W1.heap.size,0,none⟩) 4 W.heap.size W ((hc.1.1.below (hb.mono hB)).mono (Nat.le_trans hB hb.size)) ((hs.below (hb.mono hB)).mono (Nat.le_trans hB hb.size)) (IU hcp) (Nat.le_refl _) (eP h1) (eP h3) (fun y hy=>by
   rw[(List.mem_replicate.1 hy).2]
   exact eP vg) (by simp)
  have e:qA (aP (n+1) c.1.1) (aP (m+1) s) (ic (m+1) s) (dz 1 (List.replicate 4 dM))=0:=by
   rw[h1,h3,h4,GK]
   rfl
  rw[e]at h
  exact h
 ·intro b l a c' W1 W hW ho h4' hcp
  have hok:=iX xZ lq (n+1) c.1.1 (m+1) s ⟨h3,Or.inr (by rw[bZ];exact h4)⟩ (jZ 1 (List.replicate 4 dM)) b ⟨by simp[jZ],any_ok⟩ ho
  obtain⟨hl,hl4,htell,hr⟩:=Cc hcp (fun y hy=>jO (hok.2 y hy)) h4'
  have hbnd:=uS hok.2 hl4 hok.1 htell
  have h:=uL (n+1) (k+1) (top b) c.1.2.1 t l a c' W.heap.size W ((hc.1.2.1.below (hW.mono hB)).mono (Nat.le_trans hB hW.size)) ((ht.below (hW.mono hB)).mono (Nat.le_trans hB hW.size)) hl (Nat.le_refl _) (eP h2) (eP h5) (fun y hy=>eP ((dI hbnd).2 y hy).1) (by omega)
  have e:qA (aP (n+1) c.1.2.1) (aP (k+1) t) (ic (k+1) t) (dz (top b) l)=0:=by
   rw[h2,h5,h6,hbnd]
   rfl
  rw[e,hl4]at h
  exact h
def uC (N:Nat) (o:Option (Tm (N+1))) (w:World) (e:Ending) (w':World):Prop:=
 ∃y:Tm (N+1),e=.returned (.tuple #[.agg #[.int .i64 y.1.1,.int .i64 y.1.2.1,.string y.1.2.2,.slice y.2.1.1 y.2.2.length y.2.1.2],.bool o.isSome])/\Hid (Below w.heap.size w w'/\In w'.heap.size w' (N+1) y/\Off (fun q=>w.heap.size<=q) (N+1) y/\same (N+1) y (N+1) (o.getD (zeroV N))=true)
theorem EX {N:Nat} {E:Int} {o:Option (Tm N)}:(BN E (jq E o)==0)=(jq E o).isSome:=by
 unfold BN
 by_cases hE:E=0
 ·rw[if_pos hE]
  cases (jq E o).isSome<;>simp
 ·rw[if_neg hE]
  have:jq E o=none:=by unfold jq;rw[if_neg hE]
  rw[this]
  simp[hE]
theorem ze {N:Nat} (y:Tm (N+1)):val (N+1) y=.agg #[.int .i64 y.1.1,.int .i64 y.1.2.1,.string y.1.2.2,.slice y.2.1.1 y.2.2.length y.2.1.2]:=rfl
theorem FL {w w':World} {t:TypeId} {v0 v1 v2 v3:Value} (h:Below (w.alloc (.cells #[v0,v1,v2,v3] t)).drew.heap.size (w.alloc (.cells #[v0,v1,v2,v3] t)).drew w'):
    w'.cell? ⟨w.heap.size,0,none⟩=some v0/\w'.cell? ⟨w.heap.size,1,none⟩=some v1/\w'.cell? ⟨w.heap.size,2,none⟩=some v2/\w'.cell? ⟨w.heap.size,3,none⟩=some v3/\w'.frozen? ⟨w.heap.size,0,none⟩=false/\w'.frozen? ⟨w.heap.size,1,none⟩=false/\w'.frozen? ⟨w.heap.size,2,none⟩=false/\w'.frozen? ⟨w.heap.size,3,none⟩=false:=by
 have hz:=(h.block w.heap.size (by simp[World.drew])).trans (heap_alloc_new w (.cells #[v0,v1,v2,v3] t))
 exact⟨ae hz 0,ae hz 1,ae hz 2,ae hz 3,by simp[World.frozen?,hz],by simp[World.frozen?,hz],by simp[World.frozen?,hz],by simp[World.frozen?,hz]⟩
theorem Ji {w w':World} {t:TypeId} {v0 v1 v2 v3:Value} (h:Below (w.alloc (.cells #[v0,v1,v2,v3] t)).drew.heap.size (w.alloc (.cells #[v0,v1,v2,v3] t)).drew w'):w'.heap[w.heap.size]? =some (.cells #[v0,v1,v2,v3] t):=
 (h.block w.heap.size (by simp[World.drew])).trans (heap_alloc_new w (.cells #[v0,v1,v2,v3] t))
theorem D8 {w:World} {g:Nat} {t:TypeId} {u0 u1 u2 u3:Value} (h:w.heap[g]? =some (.cells #[u0,u1,u2,u3] t)) (v0 v1 v2 v3:Value):(bG w g 0 v0 v1 v2 v3).heap[g]? =some (.cells #[v0,v1,v2,v3] t):=by
 simp[bG,World.setCell,Array.getElem?_modify,h]
def DvBox (N:Nat) (y:Tm (N+1)) (w0:World) (q p:Nat) (w2 wz:World):Prop:=
 Below w0.heap.size w0 wz/\wz.heap[p]? =some (.cells #[.int .i64 y.1.1,.int .i64 y.1.2.1,.string y.1.2.2,.slice y.2.1.1 y.2.2.length y.2.1.2] 25)/\p≠q/\(∀r,r<w2.heap.size->r≠p->wz.heap[r]? =w2.heap[r]?)/\Off (fun r=>w0.heap.size<=r/\r<w2.heap.size/\r≠p) (N+1) y
theorem DvBox.cells {N:Nat} {y:Tm (N+1)} {w0 w2 wz:World} {q p:Nat} (h:DvBox N y w0 q p w2 wz) (hq:q<w0.heap.size) {t:TypeId} {v0 v1 v2 v3:Value} (hz:w0.heap[q]? =some (.cells #[v0,v1,v2,v3] t)):
    (wz.cell? ⟨p,0,none⟩=some (.int .i64 y.1.1)/\wz.cell? ⟨p,1,none⟩=some (.int .i64 y.1.2.1)/\wz.cell? ⟨p,2,none⟩=some (.string y.1.2.2)/\wz.cell? ⟨p,3,none⟩=some (.slice y.2.1.1 y.2.2.length y.2.1.2))/\
    (wz.cell? ⟨q,0,none⟩=some v0/\wz.cell? ⟨q,1,none⟩=some v1/\wz.cell? ⟨q,2,none⟩=some v2/\wz.cell? ⟨q,3,none⟩=some v3)/\wz.frozen? ⟨q,0,none⟩=false/\wz.frozen? ⟨q,1,none⟩=false/\wz.frozen? ⟨q,2,none⟩=false/\wz.frozen? ⟨q,3,none⟩=false/\p≠q:=by
 have e:=(h.1.block q hq).trans hz
 exact⟨⟨ae h.2.1 0,ae h.2.1 1,ae h.2.1 2,ae h.2.1 3⟩,⟨ae e 0,ae e 1,ae e 2,ae e 3⟩,by simp[World.frozen?,e],by simp[World.frozen?,e],by simp[World.frozen?,e],by simp[World.frozen?,e],h.2.2.1⟩
theorem DvBox.close {N:Nat} {y:Tm (N+1)} {E:Int} {o:Option (Tm (N+1))} {w w0 w2 wz:World} {q p:Nat} (h:DvBox N y w0 q p w2 wz) (hb:Below w.heap.size w w0) (hqw:w.heap.size<=q) (hq:q<w0.heap.size) (hin:In w2.heap.size w2 (N+1) y) (hs:same (N+1) y (N+1) ((jq E o).getD (zeroV N))=true) {v0 v1 v2 v3:Value} (hsz:w2.heap.size<=wz.heap.size):
    uC N (jq E o) w (.returned (.tuple #[.agg #[.int .i64 y.1.1,.int .i64 y.1.2.1,.string y.1.2.2,.slice y.2.1.1 y.2.2.length y.2.1.2],.bool (BN E (jq E o)==0)])) (bG wz q 0 v0 v1 v2 v3):=by
 obtain⟨h1,h2,h3,h4,h5⟩:=h
 have hbz:=hb.trans (h1.mono hb.size)
 have hb0:=hb.size
 refine⟨y,by rw[EX],aR hbz hqw _ _ _ _, ?_,h5.mono fun r hr=>by omega,hs⟩
 rw[aF]
 exact(In.off (P:=fun r=>w0.heap.size<=r/\r<w2.heap.size/\r≠p) (fun r hr=>(au (by omega) _ _ _ _).trans (h4 r hr.2.1 hr.2.2)) h5 hin).mono hsz
theorem vF (N:Nat) (E:Int) (o:Option (Tm (N+1))) (x0 x1:Int) (x2:ByteArray) (xa:Option Addr) (xl xc:Nat) (a:Option Addr) (c:Nat) (self:Int) (db:Nat) (w:World) (hdb:db<w.heap.size)
    (d0:w.cell? ⟨db,0,none⟩=some (.slice a 4 c)) (d1:w.cell? ⟨db,1,none⟩=some (.int .i64 self))
    (HV:Hid (∀W,Below w.heap.size w W->Calls Tryz.prog 83 #[.agg #[.int .i64 x0,.int .i64 x1,.string x2,.slice xa xl xc],.slice a 4 c,.int .i64 self] W (xX N E o W))):
    Calls Tryz.prog 65 #[.pointer (some ⟨db,0,none⟩),.agg #[.int .i64 x0,.int .i64 x1,.string x2,.slice xa xl xc]] w (uC N (jq E o) w):=by
 have HW:Hid (∃w0 g q,(w0=(w.alloc (.cells #[.int .i64 x0,.int .i64 x1,.string x2,.slice xa xl xc] 25)).alloc (.cells #[.int .i64 0,.int .i64 0,.string ⟨#[]⟩,.slice none 0 0] 25)/\g=w.heap.size/\q=w.heap.size+1)/\(g<w0.heap.size/\db<w0.heap.size/\q<w0.heap.size/\w.heap.size<=q)/\Below w.heap.size w w0/\w0.heap[q]? =some (.cells #[.int .i64 0,.int .i64 0,.string ⟨#[]⟩,.slice none 0 0] 25)/\∀W,Below w0.heap.size w0 W->(W.cell? ⟨g,0,none⟩=some (.int .i64 x0)/\W.cell? ⟨g,1,none⟩=some (.int .i64 x1)/\W.cell? ⟨g,2,none⟩=some (.string x2)/\W.cell? ⟨g,3,none⟩=some (.slice xa xl xc))/\W.cell? ⟨db,0,none⟩=some (.slice a 4 c)/\W.cell? ⟨db,1,none⟩=some (.int .i64 self)):=by
  have hb0:Below w.heap.size w ((w.alloc (.cells #[.int .i64 x0,.int .i64 x1,.string x2,.slice xa xl xc] 25)).alloc (.cells #[.int .i64 0,.int .i64 0,.string ⟨#[]⟩,.slice none 0 0] 25)):=((Below.refl _ _).alloc (Nat.le_refl _) _).alloc (by simp) _
  have n1:=heap_alloc_new (w.alloc (.cells #[.int .i64 x0,.int .i64 x1,.string x2,.slice xa xl xc] 25)) (.cells #[.int .i64 0,.int .i64 0,.string ⟨#[]⟩,.slice none 0 0] 25)
  rw[World.size_alloc]at n1
  refine⟨_,_,_,⟨rfl,rfl,rfl⟩,⟨by simp;omega,by simp;omega,by simp,by omega⟩,hb0,n1,fun W hW=> ?_⟩
  have e0:=(hW.block w.heap.size (by simp;omega)).trans ((((Below.refl _ _).alloc (Nat.le_refl _) _).block w.heap.size (by simp)).trans (heap_alloc_new w (.cells #[.int .i64 x0,.int .i64 x1,.string x2,.slice xa xl xc] 25)))
  have hb:Below w.heap.size w W:=hb0.trans (hW.mono (by simp;omega))
  exact⟨⟨ae e0 0,ae e0 1,ae e0 2,ae e0 3⟩,(hb.cell (p:=⟨db,0,none⟩) hdb).trans d0,(hb.cell (p:=⟨db,1,none⟩) hdb).trans d1⟩
 go_enter Tryz.func65,Tryz.ntmps65
 go_wp2_with fail
 obtain⟨w0,g,q,⟨hw0,hg,hq⟩,HGL,HB0,HQ0,HC⟩:=HW.out
 rw[<-hw0,<-hq,<-hg]
 replace HGL:=hide HGL
 replace HB0:=hide HB0
 replace HQ0:=hide HQ0
 replace HC:=hide HC
 clear hw0 hg hq HW d0 d1
 obtain⟨⟨c0,c1,c2,c3⟩,d0,d1⟩:=HC.out w0 (Below.refl _ _)
 have HD0:Hid (Below w0.heap.size w0 w0.drew):=(Below.refl _ _).drew
 have HDA:Hid (∀o:Obj,Below w0.heap.size w0 (w0.alloc o).drew):=fun o=>((Below.refl _ _).alloc (Nat.le_refl _) o).drew
 have HBA:Hid (∀o:Obj,Below w.heap.size w (w0.alloc o).drew):=fun o=>HB0.out.trans ((HDA.out o).mono HB0.out.size)
 have HBD:=hide (HB0.out.trans (HD0.out.mono HB0.out.size))
 go_region_held3 (fun W=>(W.cell? ⟨g,0,none⟩=some (.int .i64 x0)/\W.cell? ⟨g,1,none⟩=some (.int .i64 x1)/\W.cell? ⟨g,2,none⟩=some (.string x2)/\W.cell? ⟨g,3,none⟩=some (.slice xa xl xc))/\W.cell? ⟨db,0,none⟩=some (.slice a 4 c)/\W.cell? ⟨db,1,none⟩=some (.int .i64 self))
  (first|(go_keep;done)|exact HC.out _ HD0.out|exact HC.out _ (HDA.out _)|exact HC.out _ (HB2.out.alloc HB2.out.size _)|exact HC.out _ ((((HB2.out.setCell (Nat.le_refl _) _).setCell (Nat.le_refl _) _).setCell (Nat.le_refl _) _).setCell (Nat.le_refl _) _)|exact HC.out _ HB2.out) ((first
   | (go_at_call 83;refine(HV.out _ HBD.out).mono ?_;rintro e w2 ⟨y,rfl,HY⟩;rw[ze];have HB2:=hide (HD0.out.trans (HY.out.1.mono HD0.out.size)))
   | (go_at_call 83;refine(HV.out _ (HBA.out _)).mono ?_;rintro e w2 ⟨y,rfl,HY⟩;rw[ze];have HB2:=hide ((HDA.out _).trans (HY.out.1.mono (HDA.out _).size));have HBK:=hide (Ji HY.out.1);obtain⟨z0,z1,z2,z3,f0,f1,f2,f3⟩:=FL HY.out.1)))
 ·have HZ:Hid (∃wz p,(wz=w2.alloc (.cells #[.int .i64 y.1.1,.int .i64 y.1.2.1,.string y.1.2.2,.slice y.2.1.1 y.2.2.length y.2.1.2] 25)/\p=w2.heap.size)/\DvBox N y w0 q p w2 wz):=by
    refine⟨_,_,⟨rfl,rfl⟩,HB2.out.alloc HB2.out.size _,heap_alloc_new _ _, ?_,fun r hr _=>((Below.refl _ _).alloc (Nat.le_refl _) _).block r hr, ?_⟩
    ·have:=HGL.out.2.2.1
     have:=HB2.out.size
     omega
    ·exact(In.offB HY.out.2.2.1 HY.out.2.1).mono fun r hr=>by have:=HD0.out.size;omega
  obtain⟨wz,p,⟨hwz,hp⟩,HX⟩:=HZ.out
  rw[<-hwz,<-hp]
  replace HX:=hide HX
  have HIN:=hide HY.out.2.1
  have HSM:=hide HY.out.2.2.2
  have HSZ:Hid (w2.heap.size<=wz.heap.size):=by
   rw[hwz]
   simp[Hid]
  clear hwz hp HZ HY HV HC HDA HBA HBD HD0 c0 c1 c2 c3 d0 d1
  obtain⟨⟨b0,b1,b2,b3⟩,⟨z0,z1,z2,z3⟩,f0,f1,f2,f3,hpq⟩:=HX.out.cells HGL.out.2.2.1 HQ0.out
  go_wp2_with fail
  exact bodyPost_ret (v:=.tuple #[.agg #[.int .i64 y.1.1,.int .i64 y.1.2.1,.string y.1.2.2,.slice y.2.1.1 y.2.2.length y.2.1.2],.bool (BN E (jq E o)==0)]) (by simp[results,Tryz.results65,go_sem,z0,z1,z2,z3]) rfl (HX.out.close HB0.out HGL.out.2.2.2 HGL.out.2.2.1 HIN.out HSM.out HSZ.out)
 ·have HZ:Hid (∃wz p,(wz=bG w2 w0.heap.size 0 (.int .i64 y.1.1) (.int .i64 y.1.2.1) (.string y.1.2.2) (.slice y.2.1.1 y.2.2.length y.2.1.2)/\p=w0.heap.size)/\DvBox N y w0 q p w2 wz):=by
    refine⟨_,_,⟨rfl,rfl⟩,((((HB2.out.setCell (Nat.le_refl _) _).setCell (Nat.le_refl _) _).setCell (Nat.le_refl _) _).setCell (Nat.le_refl _) _), ?_, ?_,fun r _ hr=>au hr _ _ _ _, ?_⟩
    ·exact D8 HBK.out _ _ _ _
    ·have:=HGL.out.2.2.1
     omega
    ·exact(In.offB HY.out.2.2.1 HY.out.2.1).mono fun r hr=>by
       have:=hr.1
       simp[World.drew]at this
       omega
  obtain⟨wz,p,⟨hwz,hp⟩,HX⟩:=HZ.out
  replace HX:=hide HX
  have HIN:=hide HY.out.2.1
  have HSM:=hide HY.out.2.2.2
  have HSZ:Hid (w2.heap.size<=wz.heap.size):=by
   rw[hwz,aF]
   exact Nat.le_refl _
  unfold bG at hwz
  simp only[Nat.zero_add]at hwz
  rw[<-hwz,<-hp]
  clear hwz hp HZ HY HV HC HDA HBA HBD HD0 c0 c1 c2 c3 d0 d1 z0 z1 z2 z3 f0 f1 f2 f3
  obtain⟨⟨b0,b1,b2,b3⟩,⟨z0,z1,z2,z3⟩,f0,f1,f2,f3,hpq⟩:=HX.out.cells HGL.out.2.2.1 HQ0.out
  go_wp2_with fail
  exact bodyPost_ret (v:=.tuple #[.agg #[.int .i64 y.1.1,.int .i64 y.1.2.1,.string y.1.2.2,.slice y.2.1.1 y.2.2.length y.2.1.2],.bool (BN E (jq E o)==0)]) (by simp[results,Tryz.results65,go_sem,z0,z1,z2,z3]) rfl (HX.out.close HB0.out HGL.out.2.2.2 HGL.out.2.2.1 HIN.out HSM.out HSZ.out)
def BV {N:Nat}:Option (Tm (N+1))->Bool
 | some z=>z.1.1==3
 | none=>false
theorem yT (N:Nat) (o:Option (Tm (N+1))) (x0 x1:Int) (x2:ByteArray) (xa:Option Addr) (xl xc:Nat) (db:Nat) (w:World)
    (HV:Hid (∀W,Below w.heap.size w W->Calls Tryz.prog 65 #[.pointer (some ⟨db,0,none⟩),.agg #[.int .i64 x0,.int .i64 x1,.string x2,.slice xa xl xc]] W (uC N o W))):
    Calls Tryz.prog 111 #[.pointer (some ⟨db,0,none⟩),.agg #[.int .i64 x0,.int .i64 x1,.string x2,.slice xa xl xc]] w fun e w'=>∃u,e=.returned (.tuple #[.int .i64 u,.bool (BV o)])/\Hid (Below w.heap.size w w'/\∀z,o=some z->u=z.1.2.1):=by
 have HA:Hid (∀o:Obj,Below w.heap.size w (w.alloc o)):=fun o=>(Below.refl _ _).alloc (Nat.le_refl _) o
 have HC0:(w.alloc (.cells #[.int .i64 x0,.int .i64 x1,.string x2,.slice xa xl xc] 25)).cell? ⟨w.heap.size,0,none⟩=some (.int .i64 x0):=ae (heap_alloc_new w _) 0
 go_enter Tryz.func111,Tryz.ntmps111
 go_wp2_with fail
 refine(HV.out _ (HA.out _)).mono ?_
 rintro e w2 ⟨y,rfl,HY⟩
 have HB2:=hide ((HA.out (.cells #[.int .i64 x0,.int .i64 x1,.string x2,.slice xa xl xc] 25)).trans (HY.out.1.mono (HA.out _).size))
 have HS:=hide HY.out.2.2.2
 have HB3:Hid (∀ob:Obj,Below w.heap.size w (w2.alloc ob).drew):=fun ob=>(HB2.out.alloc HB2.out.size ob).drew
 clear HY HV HC0
 cases o with
 | none=>
  simp only[Option.isSome_none]
  go_wp2_with fail
  go_region
  all_goals
   go_wp2_with fail
   go_ret2
   exact⟨_,rfl,HB3.out _,fun z hz=>by cases hz⟩
 | some z=>
  simp only[Option.isSome_some]
  have h:=HS.out
  simp only[Option.getD_some,same,Bool.and_eq_true,beq_iff_eq]at h
  have HK:Hid (BV (some z)=(y.1.1==3)):=by
   show _=_
   rw[h.1.1.1]
   rfl
  have HU:=hide h.1.1.2
  clear h HS
  go_wp2_with fail
  go_region
  all_goals
   go_wp2_with fail
   go_ret2
   rw[HK.out]
   exact⟨_,rfl,HB3.out _,fun z' hz=>by cases hz;exact HU.out⟩
theorem GX:(Tryz.prog.info? 3).map (fun i=>(i.zero,i.size,i.bytes))=some (some (.int .i64 0),1,8):=by kernel_rfl
def Ke (base db:Nat) (va:Option Addr) (L vc:Nat) (xs:List Value) (t:Bool) (F:Int->Prop) (w:World) (e:Ending) (w':World):Prop:=
 e=.returned (.bool t)/\(t=false->Below w.heap.size w w')/\
  (t=true->∃u g c w3,F u/\w3.ownsRow base 3 1 (.slice (some ⟨g,0,none⟩) (L+1) c) (L+1) (xs++ [.int .i64 u])/\Kee (fun q=>(Value.slice va L vc).ownBlock=some q) w w3/\((Value.slice va L vc).ownBlock=some g∨w.heap.size<=g)/\w'=w3.setCell ⟨db,5,none⟩ (.slice (some ⟨g,0,none⟩) (L+1) c))
theorem CU (k x0 x1:Int) (x2:ByteArray) (xa:Option Addr) (xl xc:Nat) (y0 y1:Int) (y2:ByteArray) (ya:Option Addr) (yl yc:Nat) (nm:ByteArray) (vr:Int) (base db:Nat) (va:Option Addr) (L vc:Nat) (xs:List Value) (w:World) (t:Bool) (F:Int->Prop) (hL:L<=10000) (hdb:db<w.heap.size) (hbase:base<=w.heap.size)
    (HC:Hid (w.cell? ⟨db,5,none⟩=some (.slice va L vc)/\w.frozen? ⟨db,5,none⟩=false)) (HR:Hid (w.ownsRow base 3 1 (.slice va L vc) L xs)) (HN:Hid ((Value.slice va L vc).ownBlock≠some db))
    (HP:Hid (∀W,Below w.heap.size w W->Calls Tryz.prog 111 #[.pointer (some ⟨db,0,none⟩),.agg #[.int .i64 x0,.int .i64 x1,.string x2,.slice xa xl xc]] W fun e w'=>∃u,e=.returned (.tuple #[.int .i64 u,.bool t])/\Hid (Below W.heap.size W w'/\F u))):
    Calls Tryz.prog 97 #[.pointer (some ⟨db,0,none⟩),.agg #[.int .i64 k,.int .i64 x0,.int .i64 x1,.string x2,.slice xa xl xc,.int .i64 y0,.int .i64 y1,.string y2,.slice ya yl yc,.string nm,.int .i64 vr]] w (Ke base db va L vc xs t F w):=by
 obtain⟨it,hit,htz0,htz1,htz2⟩:=info_parts GX
 have HIT:Hid (Tryz.prog.info? 3=some it/\it.zero=some (.int .i64 0)/\it.size=1/\it.bytes=8):=⟨hit,htz0,htz1,htz2⟩
 clear hit htz0 htz1 htz2
 have HW:Hid (∃w0,w0=w.alloc (.cells #[.int .i64 k,.int .i64 x0,.int .i64 x1,.string x2,.slice xa xl xc,.int .i64 y0,.int .i64 y1,.string y2,.slice ya yl yc,.string nm,.int .i64 vr] 92)/\Below w.heap.size w w0):=⟨_,rfl,(Below.refl _ _).alloc (Nat.le_refl _) _⟩
 go_enter Tryz.func97,Tryz.ntmps97
 go_wp2_with fail
 obtain⟨w0,hw0,hb0⟩:=HW.out
 rw[<-hw0]
 have HB0:=hide hb0
 clear hw0 hb0 HW
 refine(HP.out _ HB0.out).mono ?_
 rintro e w2 ⟨u,rfl,H2⟩
 have HB2:=hide (HB0.out.trans (H2.out.1.mono HB0.out.size))
 have HF:=hide H2.out.2
 clear H2 HP HB0
 cases t
 ·go_wp2_with fail
  go_ret
  exact⟨rfl,fun _=>HB2.out,fun h=>(by cases h)⟩
 ·have c5:w2.cell? ⟨db,5,none⟩=some (.slice va L vc):=(HB2.out.cell (p:=⟨db,5,none⟩) hdb).trans HC.out.1
  have HO:Hid (w2.ownsRow base 3 1 (.slice va L vc) L xs):=aL HR.out (aG HB2.out fun _=>False) fun _ _ h=>h
  have HSZ:=hide HB2.out.size
  have HFZ:Hid (w2.frozen? ⟨db,5,none⟩=false):=by
   have hf:=HC.out.2
   unfold World.frozen? at hf ⊢
   rw[HB2.out.block db hdb]
   exact hf
  go_wp2_with (first
   | (at_builtin;refine wpList_append_lies _ rfl _ _ 41 rfl base 3 it _ 1 8 Tryz.underlying41 HIT.out.1 HIT.out.2.1 HIT.out.2.2.1 HIT.out.2.2.2 rfl (by decide) (.slice va L vc) L xs rfl (HO.out.alloc _) ⟨w2.heap.size,0,none⟩ 1 1 [.int .i64 u] rfl rfl (World.news_of_block (cs:= #[.int .i64 u]) (t:=3) (fr:=(0,0)) (heap_alloc_new w2 _)) (by simp[Value.oneCell']) (by decide) (by unfold maxLen;omega) (by omega) (by have:=HSZ.out;simp;omega) _ rfl ?_;intro g5 c5' w5 hown5 hgrow5 hat5 hlt5;have HO5:=hide hown5;have HG5:=hide hgrow5;have HA5:=hide hat5;have e5:w5.cell? ⟨db,5,none⟩=some (.slice va L vc):=(hgrow5.cell_far ⟨db,5,none⟩ (by show db<_;have:=HSZ.out;simp;omega) (fun e=>HN.out e.symm)).trans (((Below.refl _ _).alloc (Nat.le_refl _) _ |>.cell (p:=⟨db,5,none⟩) (by show db<_;have:=HSZ.out;omega)).trans c5);have f5:w5.frozen? ⟨db,5,none⟩=false:=(hgrow5.frozen_far ⟨db,5,none⟩ (by show db<_;have:=HSZ.out;simp;omega) (fun e=>HN.out e.symm)).trans (by have hf:=HFZ.out;unfold World.frozen? at hf ⊢;rw[((Below.refl _ _).alloc (Nat.le_refl _) (.cells #[.int .i64 u] 3)).block db (by have:=HSZ.out;omega)];exact hf);clear hown5 hgrow5 hat5 hlt5))
  go_ret
  refine⟨rfl,fun h=>(by cases h),fun _=>⟨u,g5,c5',w5,HF.out,HO5.out, ?_, ?_,rfl⟩⟩
  ·exact Kee.trans (aG (HB2.out.alloc HB2.out.size _) _) (fE HG5.out) fun _ _ e=>e
  ·rcases HA5.out with e|e
   ·exact Or.inl e
   ·have:=HSZ.out
    simp at e
    exact Or.inr (by omega)
section
variable {P:Program} {ops:Array Oper} {Q:Exit->Act->World->Prop} {md:Region.Mode} {S:World->Prop} {X:Nat}
def gJ (P:Program) (md:Region.Mode) (ops:Array Oper) (Q:Exit->Act->World->Prop) (S:World->Prop) (X:Nat):Nat->Array Bool->Act->World->Prop
 | 0,listed,a,w=>Region.ready md ops listed=[]/\Q .normal a w
 | fuel+1,listed,a,w=>
  (Region.ready md ops listed=[]->Q .normal a w)/\
  ∀i∈Region.ready md ops listed,wpOp P ops Q i (fun a' w'=>(i≠X->S w')/\gJ P md ops Q S X fuel (listed.setIfInBounds i true) a' w') a w
theorem sO:∀(fuel:Nat) (listed:Array Bool) (a:Act) (w:World),gJ P md ops Q S X fuel listed a w->wpAny P md ops Q fuel listed a w
 | 0,_,_,_,h=>h
 | fuel+1,_,_,_,h=>⟨h.1,fun i hi=>wpOp_mono (fun a' w' h'=>sO fuel _ a' w' h'.2) (h.2 i hi)⟩
theorem vD {i:Nat} {oi:Oper} {v:Value} (hi:ops[i]? =some oi) (hsel:∀(j:Nat) (o:Oper) cs b,ops[j]? =some o->o.op≠.select cs b)
    (hQ:∀c a w,Q (.panic c) (a.put oi.dst v) w->Q (.panic c) a w) (hX:∀oj,ops[X]? =some oj->∃e∈oj.after,Region.binds md e=true/\e.on=i):
    ∀(fuel:Nat) (listed:Array Bool) (a:Act) (w:World),
     (∀j oj,ops[j]? =some oj->j≠i->listed.getD j true=false->(∀e∈oj.after,Region.binds md e=true->e.on≠i)->oi.apart ops oj=true)->
     i∈Region.ready md ops listed->YieldsIf P ops S oi v a->S w->
     gJ P md ops Q S X fuel (listed.setIfInBounds i true) (a.put oi.dst v) w->gJ P md ops Q S X (fuel+1) listed a w:=by
 intro fuel
 induction fuel with
 | zero=>
  intro listed a w _ hr hy hS H
  refine⟨fun h=>(by rw[h]at hr;cases hr),fun j hj=> ?_⟩
  by_cases hji:j=i
  ·subst hji;exact hy.wpOp hi hS ⟨fun _=>hS,H⟩
  ·have:=ready_mono hj hji
   rw[H.1]at this
   cases this
 | succ fuel ih=>
  intro listed a w hfree hr hy hS H
  refine⟨fun h=>(by rw[h]at hr;cases hr),fun j hj=> ?_⟩
  by_cases hji:j=i
  ·subst hji;exact hy.wpOp hi hS ⟨fun _=>hS,H⟩
  ·have h1:=H.2 j (ready_mono hj hji)
   obtain⟨hjun,oj,hoj,hall⟩:=mem_ready.1 hj
   have hnot:∀e∈oj.after,Region.binds md e=true->e.on≠i:=fun e he hb heq=>by
    have h1:=hall e he hb
    have h0:=(mem_ready.1 hr).1
    rw[heq]at h1
    rcases Nat.lt_or_ge i listed.size with h'|h'
    ·simp[h']at h0 h1;rw[h0]at h1;cases h1
    ·simp[Array.getElem?_eq_none h']at h1
   have hne:j≠X:=fun e=>by
    obtain⟨e1,he1,hb1,ho1⟩:=hX oj (by rw[<-e];exact hoj)
    exact hnot e1 he1 hb1 ho1
   have h2:=wpOp_putIf hoj (hfree j oj hoj hji hjun hnot) (fun cs b=>hsel i oi cs b hi) (fun cs b=>hsel j oj cs b hoj) hQ hy h1
   have hfree':∀k ok,ops[k]? =some ok->k≠i->(listed.setIfInBounds j true).getD k true=false->
     (∀e∈ok.after,Region.binds md e=true->e.on≠i)->oi.apart ops ok=true:=fun k ok hk hki hun hno=>by
    refine hfree k ok hk hki ?_ hno
    by_cases hjk:j=k
    ·subst hjk;exact hjun
    ·rw[getD_set_ne true hjk]at hun;exact hun
   refine wpOp_mono (fun a' w' h3=>⟨fun _=>h3.2.1 hne,ih (listed.setIfInBounds j true) a' w' hfree' (ready_mono hr (Ne.symm hji)) h3.1 (h3.2.1 hne) ?_⟩) h2
   rw[Array.setIfInBounds_comm _ _ hji]
   exact h3.2.2
def Ap (md:Region.Mode) (ops:Array Oper) (X i:Nat):Bool:=((ops[X]?).map fun o=>o.after.any fun e=>Region.binds md e && e.on==i).getD false
theorem Bl {i:Nat} (h:Ap md ops X i=true):∀oj,ops[X]? =some oj->∃e∈oj.after,Region.binds md e=true/\e.on=i:=fun oj hj=>by
 unfold Ap at h
 rw[hj]at h
 simp only[Option.map_some,Option.getD_some,Array.any_eq_true]at h
 obtain⟨k,hk,h⟩:=h
 simp only[Bool.and_eq_true,beq_iff_eq]at h
 exact⟨_,Array.getElem_mem hk,h.1,h.2⟩
theorem ah {i:Nat} {oi:Oper} {v:Value} {fuel:Nat} {listed:Array Bool} {a:Act} {w:World} (hi:ops[i]? =some oi)
    (hs:Region.noSelect ops=true) (hf:Region.free md ops listed i=true) (hr:(Region.ready md ops listed).contains i=true) (hx:Ap md ops X i=true)
    (hQ:∀c a w,Q (.panic c) (a.put oi.dst v) w->Q (.panic c) a w) (hg:oi.guard=none) (hy:∀w,S w->(execOp a.eval oi).run P w=.ok (.value v) w) (hS:S w)
    (h:gJ P md ops Q S X fuel (listed.setIfInBounds i true) (a.put oi.dst v) w):gJ P md ops Q S X (fuel+1) listed a w:=
 vD hi (Region.noSelect_spec hs) hQ (Bl hx) fuel listed a w (Region.free_spec hi hf) (by simpa using hr) (Or.inl ⟨by simp[Region.wanted,hg],hy⟩) hS h
theorem aV {i:Nat} {o:Oper} {fuel:Nat} {listed:Array Bool} {a:Act} {w:World} (hr:Region.ready md ops listed=[i]) (ho:ops[i]? =some o) (hg:o.guard=none)
    (h:∀K:Act->World->Prop,Hid (∀a' w',(i≠X->S w')->(S w'->gJ P md ops Q S X fuel (listed.setIfInBounds i true) a' w')->K a' w')->o.wp P a w K Q) (hne:i≠X):gJ P md ops Q S X (fuel+1) listed a w:=by
 refine⟨fun h0=>(by rw[hr]at h0;cases h0),fun j hj=> ?_⟩
 rw[hr]at hj
 obtain rfl:j=i:=by simpa using hj
 unfold wpOp
 simp only[ho]
 have hw:Region.wanted o (yielded ops a.tmps)=true:=by simp[Region.wanted,hg]
 simp only[hw,if_true]
 exact Or.inl (h _ fun a' w' h1 h2=>⟨h1,h2 (h1 hne)⟩)
theorem dU {o:Oper} {fuel:Nat} {listed:Array Bool} {a:Act} {w:World} (hr:Region.ready md ops listed=[X]) (ho:ops[X]? =some o) (hg:o.guard=none) (hd:Region.ready md ops (listed.setIfInBounds X true)=[])
    (h:∀K:Act->World->Prop,Hid (∀a' w',Q .normal a' w'->K a' w')->o.wp P a w K Q):gJ P md ops Q S X (fuel+1) listed a w:=by
 refine⟨fun h0=>(by rw[hr]at h0;cases h0),fun j hj=> ?_⟩
 rw[hr]at hj
 obtain rfl:j=X:=by simpa using hj
 unfold wpOp
 simp only[ho]
 have hw:Region.wanted o (yielded ops a.tmps)=true:=by simp[Region.wanted,hg]
 simp only[hw,if_true]
 refine Or.inl (h _ fun a' w' h1=>⟨fun h2=>absurd rfl h2, ?_⟩)
 cases fuel with
 | zero=>exact⟨hd,h1⟩
 | succ fuel=>exact⟨fun _=>h1,by rw[hd];simp⟩
theorem fD (S:World->Prop) (X:Nat) {id:Nat} {a:Act} {w:World} (hm:P.follows .mixedOrders=true)
    (h:gJ P .any ops Q S X ops.size (Array.replicate ops.size false) a w.drew):(Code.region id ops true).wp P Q a w:=
 wp_region_any hm (sO _ _ _ _ h)
end
end Go.Proofs.YtbknffhilfoakaaGreat
