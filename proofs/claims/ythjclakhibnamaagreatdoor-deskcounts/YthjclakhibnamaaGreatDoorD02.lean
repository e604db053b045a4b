/- Proved here: plain facts and contracts. No condition but what each names. -/
import Derived.Test.YthjclakhibnamaaGreatDoorRows
import Derived.WalkKit
import Derived.WalkSpells
import Derived.WalkLawsBesides
import Derived.Test.YthjclakhibnamaaGreatDoorD01
import Derived.Lib.AppendIntMem
namespace Go.Proofs.YthjclakhibnamaaGreatDoor
open Go.RowKit Go.Proofs.Tryz
set_option maxRecDepth 100000
set_option maxHeartbeats 1000000
abbrev ak:= @Or.inl
abbrev am:= @Or.inr
abbrev aA:= @Nat.le_refl
abbrev aE:= @bodyPost_ret
abbrev aG:= @Nat.le_trans
abbrev aH:= @Below.refl
abbrev aJ:= @Option.some.inj
abbrev aS:= @Array.getElem?_eq_some_iff
abbrev aL:= @heap_alloc_new
abbrev aN:= @Nat.zero_le
abbrev aT:= @Bool.and_eq_true
abbrev aU:= @List.mem_of_getElem?
abbrev aV:= @List.getElem?_eq_getElem
abbrev bi:= @Nat.lt_of_lt_of_le
abbrev bj:= @List.getElem?_eq_some_iff
abbrev br:= @List.length_append
abbrev bv:= @List.length_cons
abbrev bB:= @List.map_cons
abbrev bI:= @List.take_of_length_le
abbrev bM:= @List.flatMap_cons
abbrev bS:= @Array.getElem?_modify
abbrev bT:= @info_parts
abbrev b9:= @List.eq_nil_of_length_eq_zero
abbrev cd:= @List.mem_cons_of_mem
abbrev cg:= @List.mem_map
abbrev cr:= @List.mem_cons
abbrev cu:= @List.setIfInBounds_toArray
abbrev cv:= @Option.bind_eq_some_iff
abbrev cC:= @Nat.zero_add
abbrev cD:= @if_true
abbrev cE:= @ByteArray.toList_eq
abbrev cF:= @List.length_map
abbrev cJ:= @Option.map_eq_some_iff
abbrev cM:= @run_underlying
abbrev cT:= @Nat.le_of_eq
abbrev cU:= @beq_iff_eq
abbrev cV:= @decide_eq_true_eq
abbrev cZ:= @List.all_eq_true
abbrev di:= @List.getElem?_map
abbrev dj:= @List.getElem?_of_mem
abbrev dk:= @List.sum_cons
abbrev dn:= @List.getElem?_cons_zero
abbrev du:= @List.length_take
abbrev dv:= @List.mem_append
abbrev dA:= @List.getElem?_cons_succ
abbrev dB:= @List.map_nil
abbrev dC:= @World.grownBy_alloc
abbrev dJ:= @List.set_cons_succ
abbrev dK:= @List.set_cons_zero
abbrev dL:= @List.take_add_one
abbrev dM:= @beq_eq_false_iff_ne
abbrev dO:= @List.getElem?_append_left
abbrev dP:= @List.mem_singleton
abbrev dU:= @Option.bind_some
abbrev eq:= @Below.heap_setCell
abbrev eu:= @Nat.add_sub_cancel
abbrev eF:= @List.append_nil
abbrev eG:= @bodyPost_end
abbrev eT:= @Addr.add_lit
abbrev eU:= @Bool.true_and
abbrev eV:= @List.length_drop
abbrev eW:= @List.length_nil
abbrev eX:= @World.ownsRow_nil
abbrev fp:= @Lib.cell_of_heap
abbrev fq:= @List.drop_eq_getElem_cons
abbrev ft:= @List.getElem?_append_right
abbrev fu:= @List.getElem?_eq_none
abbrev fw:= @List.map_append
abbrev fL:= @List.cons_append
abbrev fM:= @List.nodup_append
abbrev fN:= @List.size_toArray
abbrev fO:= @Nat.le_succ
abbrev fP:= @World.size_alloc
abbrev gh:= @List.foldl_cons
abbrev gi:= @List.getElem_mem
abbrev gj:= @List.not_mem_nil
abbrev gn:= @Option.isSome_iff_exists
abbrev gq:= @or_false
abbrev gR:= @List.prefix_refl
abbrev gS:= @Prod.mk.injEq
abbrev gT:= @World.grownBy.refl
abbrev gU:= @and_true
abbrev gV:= @bne_iff_ne
abbrev iL:= @Bool.and_self
abbrev iM:= @List.set_append_right
abbrev iN:= @List.take_append_drop
abbrev iO:= @Prod.ext
abbrev iP:= @WalkArith.wf_i64
abbrev iQ:= @World.cell?_setCell_same
abbrev kj:= @Bool.or_eq_true
abbrev km:= @Int.le_refl
abbrev ko:= @List.drop_eq_nil_of_le
abbrev kp:= @List.find?_cons
abbrev kt:= @List.mem_flatMap
abbrev ku:= @List.take_append_of_le_length
abbrev kv:= @Nat.le_add_right
abbrev iu:= @Nat.sub_self
abbrev iv:= @Option.some.injEq
abbrev iw:= @decide_eq_true
abbrev iy:= @of_decide_eq_true
abbrev jx:= @List.all_cons
abbrev jy:= @List.getElem?_drop
abbrev jz:= @List.getElem?_take
abbrev jA:= @List.map_map
abbrev jB:= @List.map_toArray
abbrev jC:= @List.mem_map_of_mem
abbrev jD:= @Nat.add_zero
abbrev jE:= @Result.andThen_ok
abbrev jF:= @Sem.run_bind
abbrev jG:= @Sem.run_pure
abbrev jH:= @World.frozen?_of_block
abbrev lw:= @Array.length_toList
abbrev lA:= @List.all_append
abbrev lB:= @List.append_assoc
abbrev lC:= @List.cons.injEq
abbrev lD:= @List.flatMap_append
abbrev lE:= @List.length_set
abbrev lF:= @List.map_congr_left
abbrev lG:= @List.take_succ_eq_append_getElem
abbrev lH:= @MapKept.run_getObj_map
abbrev lI:= @Option.isNone_iff_eq_none
abbrev lJ:= @Option.isSome_some
abbrev lK:= @Option.map_some
abbrev lL:= @Option.not_isSome
abbrev lM:= @World.block_lt_of_cell?
abbrev lN:= @wpList_make_full
abbrev nF:= @Array.getElem?_toList
abbrev nG:= @Go.WideMaps.keyOf_string_mk
abbrev nH:= @List.ext_getElem?
abbrev nI:= @List.foldl_append
abbrev nJ:= @List.getD_eq_getElem?_getD
abbrev nK:= @List.length_pos_iff
abbrev nL:= @List.nil_append
abbrev nM:= @List.nodup_cons
abbrev nN:= @List.replicate_zero
abbrev nO:= @List.sum_append
abbrev nP:= @Option.isSome_none
abbrev p7:= @Bool.false_eq_true
abbrev p8:= @Bool.not_eq_true'
abbrev p9:= @List.drop_append_of_le_length
abbrev qd:= @List.drop_of_length_le
abbrev qe:= @List.find?_eq_none
abbrev qh:= @List.findIdx?_eq_none_iff
abbrev qi:= @List.mem_cons_self
abbrev qj:= @List.prefix_append
abbrev qk:= @List.toList_toArray
abbrev qm:= @World.ownsMap_made
abbrev qn:= @World.ownsRow.kept
abbrev qp:= @run_storeCells_at
abbrev tU:= @ChangeMaps.heap_setBlock_same
abbrev tV:= @List.eraseIdx_eq_take_drop_succ
abbrev tW:= @List.getElem?_take_of_lt
abbrev tX:= @List.mem_or_eq_of_mem_set
abbrev aB(a b:Int)(c:ByteArray)(d:Option Addr)(e f:Nat):Value:=.agg #[.int .i64 a,.int .i64 b,.string c,.slice d e f]
abbrev ae(x:Int):Value:=.int .i64 x
abbrev ag(s:ByteArray):Value:=.string s
abbrev af(a:Option Addr)(l c:Nat):Value:=.slice a l c
abbrev aF(b:Nat):Value:=.pointer (some ⟨b,0,none⟩)
abbrev ap(w w':World):Prop:=Below w.heap.size w w'
abbrev au:=Calls Tryz.prog
abbrev ai(w:World)(b o:Nat)(v:Value):Prop:=w.cell? ⟨b,o,none⟩=some v
abbrev aw:=Ending.returned
abbrev ax:=Value.tuple
abbrev bm:=List ByteArray
abbrev dI:=List Value
abbrev bF:=World->Prop
abbrev dd:=Option Nat
abbrev bE:=Int×Int
abbrev aq:=ByteArray
abbrev ah:=World
abbrev az:=Value
abbrev ay:=Option Addr
theorem aW(w:World)(o:Obj):Below w.heap.size w (w.alloc o):=(aH _ _).alloc (aA _) _
abbrev aX:=Nat->Prop
theorem jJ{k:IntKind}{a b:Int}(c:a=b):Ending.returned (.int k a)=aw (.int k b):=by rw[c]
theorem av{p:Prop}(a:p):Hid p:=a
variable{B b:Nat}{w w' w1:ah}
theorem de(a:Below w.drew.heap.size w.drew w1):ap w w1:=⟨a.os,a.tape,a.output,a.size,a.block⟩
theorem aC(a:Below B w w1):∀b o,b<B->w1.cell? ⟨b,o,none⟩=w.cell? ⟨b,o,none⟩:=λb o c=>a.cell (p:=⟨b,o,none⟩) c
def Tm:Nat->Type
 | 0=>Unit
 | n+1=>(Int×Int×aq)×(ay×Nat)×List (Tm n)
def dG:(n:Nat)->Tm n->az
 | 0,_=> .nilIface
 | _+1,x=>aB x.1.1 x.1.2.1 x.1.2.2 x.2.1.1 x.2.2.length x.2.1.2
def eh(w:ah)(b o:Nat):(n:Nat)->Tm n->Prop
 | 0,_=>False
 | _+1,x=>w.cell? ⟨b,o,none⟩=some (ae x.1.1)/\w.cell? ⟨b,o+1,none⟩=some (ae x.1.2.1)/\
    w.cell? ⟨b,o+2,none⟩=some (ag x.1.2.2)/\w.cell? ⟨b,o+3,none⟩=some (af x.2.1.1 x.2.2.length x.2.1.2)
def dp(k:Int):Prop:=-9223372036854775808<=k/\k<=9223372036854775807
def In(B:Nat)(w:ah):(n:Nat)->Tm n->Prop
 | 0,_=>False
 | n+1,x=>(dp x.1.1/\dp x.1.2.1/\x.1.2.2.size<=maxLen/\x.2.2.length<=x.2.1.2/\x.2.1.2<=maxLen)/\
    (x.2.2=[]\/∃b o,x.2.1.1=some ⟨b,o,none⟩/\b<B/\∀(i:Nat)(y:Tm n),x.2.2[i]?=some y->eh w b (o+i*4) n y/\In B w n y)
theorem eh.below{B:Nat}{w w':ah}(a:Below B w w'){b o:Nat}(c:b<B):{n:Nat}->{x:Tm n}->eh w b o n x->eh w' b o n x
 | 0,_,k=>k
 | _+1,_,k=>by
  obtain⟨d,e,f,g⟩:=k;exact⟨(a.cell (p:=⟨b,o,none⟩) c).trans d,(a.cell (p:=⟨b,o+1,none⟩) c).trans e,(a.cell (p:=⟨b,o+2,none⟩) c).trans f,(a.cell (p:=⟨b,o+3,none⟩) c).trans g⟩
theorem In.below{B:Nat}{w w':ah}(c:Below B w w'):{n:Nat}->{x:Tm n}->In B w n x->In B w' n x
 | 0,_,k=>k
 | _+1,_,k=>by
  obtain⟨g,a⟩:=k;refine⟨g,?_⟩;rcases a with a|⟨b,o,e,d,a⟩
  ·exact ak a
  ·exact am ⟨b,o,e,d,λi y f=>⟨(a i y f).1.below c d,(a i y f).2.below c⟩⟩
theorem In.mono{B C:Nat}(d:B<=C){w:ah}:{n:Nat}->{x:Tm n}->In B w n x->In C w n x
 | 0,_,k=>k
 | _+1,_,k=>by
  obtain⟨f,a⟩:=k;refine⟨f,?_⟩;rcases a with a|⟨b,o,e,g,a⟩
  ·exact ak a
  ·exact am ⟨b,o,e,by omega,λi y c=>⟨(a i y c).1,(a i y c).2.mono d⟩⟩
def oU(x y:Int):Int:=if x<y then -1 else if y<x then 1 else 0
def xB(x y:aq):Int:=if Op.bytesLess x.toList y.toList then -1 else if !Op.bytesLess x.toList y.toList && !(x.toList==y.toList)then 1 else 0
def qt{c d:Type}(f:c->d->Int):List c->List d->Int
 | a::p,b::q=>if f a b=0 then qt f p q else f a b
 | _,_=>0
def yM:(n:Nat)->Tm n->(m:Nat)->Tm m->Int
 | n+1,x,m+1,y=>
  if x.1.1=y.1.1 then
   if x.1.1=1\/x.1.1=3\/x.1.1=5 then oU x.1.2.1 y.1.2.1
   else if x.1.1=2 then xB x.1.2.2 y.1.2.2
   else if x.1.1=4 then
    if x.2.2.length=y.2.2.length then qt (λa b=>yM n a m b) x.2.2 y.2.2 else oU x.2.2.length y.2.2.length
   else 0
  else oU x.1.1 y.1.1
 | _,_,_,_=>0
theorem IX{c d:Type}(f:c->d->Int)(p:List c)(q:List d)(k:Nat)(a:c)(b:d)(j:p[k]?=some a)(l:q[k]?=some b):qt f (p.drop k) (q.drop k)=if f a b=0 then qt f (p.drop (k+1)) (q.drop (k+1))else f a b:=by
 obtain⟨h,e⟩:=bj.1 j;obtain⟨i,g⟩:=bj.1 l;rw[fq h,fq i,e,g];rfl
theorem infoByte:(Tryz.prog.info? 5).map (λi=>(i.zero,i.size,i.bytes))=some (some (.int .u8 0),1,1):=by kernel_rfl
theorem sizeBuilder:(Tryz.prog.info? 38).map (·.size)=some 2:=by kernel_rfl
theorem liesBuilder:liesAt Tryz.prog Tryz.prog.depth 38 (2 / Tryz.prog.cellsOf 38) 0 38 1=true:=by kernel_rfl
def Bu(B b:Nat)(l:List UInt8)(w:ah):Prop:=Lib.IsBuilderF 38 5 B b (Lib.byteCells l) w
def dE(B b:Nat)(l:List UInt8)(w w':ah):Prop:=Bu B b l w'/\Below B w w'/\Lib.OthersKept 5 (some b) w w'
def JU(b:Nat)(w:ah)(q:Nat):Prop:=∃v,w.cell? ⟨b,1,none⟩=some v/\v.ownBlock=some q
def Ol(b:Nat)(w w':ah):Prop:=(∀q,q<w.heap.size->q≠b->¬JU b w q->w'.heap[q]?=w.heap[q]?)/\∀q,JU b w' q->JU b w q\/w.heap.size<=q
def QV(b:Nat)(w w':ah):Prop:=w'=w\/w'=w.setCell ⟨b,0,none⟩ (aF b)
theorem Ol.mk{b:Nat}{w w1 w2:ah}{v f d:az}(e:QV b w w1)(g:w1.cell? ⟨b,1,none⟩=some v)(n:∀q,q<w1.heap.size->some q≠v.ownBlock->w2.heap[q]?=w1.heap[q]?)(d1:w2.cell? ⟨b,1,none⟩=some d)(o:∀q,f.ownBlock=some q->v.ownBlock=some q\/w1.heap.size<=q):Ol b w (w2.setCell ⟨b,1,none⟩ f):=by
 have r:w1.heap.size=w.heap.size:=by rcases e with rfl|rfl<;>simp
 have m:∀q,q≠b->w1.heap[q]?=w.heap[q]? :=λq a=>by
  rcases e with rfl|rfl
  ·rfl
  ·exact eq _ _ _ _ (by simpa using a)
 have h:w.cell? ⟨b,1,none⟩=some v:=by
  rcases e with rfl|rfl
  ·exact g
  ·simpa [go_sem]using g
 refine⟨λq a i l=>?_,λq a=>?_⟩
 ·rw[eq _ _ _ _ (by simpa using i),n q (by omega) (λc=>l ⟨v,h,c.symm⟩),m q i]
 ·obtain⟨p,j,a⟩:=a;have c:p=f:=by
   rw[iQ _ _ _ d1]at j;exact(aJ j).symm
  subst c;exact(o q a).imp (λk=>⟨v,h,k⟩) λk=>by omega
section
variable {P:Program}
theorem DM{E:Array Oper}{F:List Oper}{o:Oper}{a:Act}{w:ah}{Q:Exit->Act->bF}(V:o.guard=none)(sl x:Operand)(t j:TypeId)(p:o.op=.call {callee:=.builtin .append,args:= #[sl,x],argTypes:= #[t,j]})(base:Nat)(e:TypeId)(i:TypeInfo)(u:P.underlying t=some (.slice e))(y:P.underlying j=some .string)(m:P.info? e=some i)(D:i.zero=some (.int .u8 0))(r:i.size=1)(B:i.bytes=1)(v:az)(n:Nat)(xs:dI)(W:a.eval sl=v)(f:w.ownsRowF base e 1 v n xs)(s:aq)(X:a.eval x=ag s)(z:n+s.size<=maxLen)(R:n+s.size<=140737488355328)(O:base<=w.heap.size)(I:∀d w',w'.ownsRowF base e 1 d (n+s.size) (xs++Lib.strCells s)->w.grownBy w' v.ownBlock->(∀q,d.ownBlock=some q->v.ownBlock=some q\/w.heap.size<=q)->wpList P E Q F (a.put o.dst d) w'):wpList P E Q (o::F) a w:=by
 refine wpList_plain V λZ M=>?_;have A:=λb N p=>Lib.run_append_own_stringF (P:=P) w b t j o.type e i u y m D r B v n xs p s z R N;obtain⟨d,w',k,J,K,_⟩:=A base O f;have L:∀q,d.ownBlock=some q->v.ownBlock=some q\/w.heap.size<=q:=λq h=>by
  rcases f.2 with⟨rfl,rfl⟩|⟨g,cap,G,H,rfl,aa,U,T,ad,ab,S,ae⟩
  ·obtain⟨af,ai,l,Y,_⟩:=A w.heap.size (aA _) ⟨f.1,.inl ⟨rfl,rfl⟩⟩;rw[k]at l;injection l with l _;subst l;exact am (Y.lt q h).1
  ·by_cases C:n+s.size<=cap
   ·have c:=Lib.run_append_room_stringF (P:=P) w t j o.type e i u y m r g n cap G H U (by simpa using T) s C (aG C (cT (by simpa using S.symm)));rw[k]at c;injection c with c _;rw[c]at h;exact ak h
   ·have c:=Lib.run_append_grow_string (P:=P) w t j o.type e i (.int .u8 0) u y m D ⟨g,0,none⟩ n cap xs (by rw[r];simpa using f.1) (f.cells (g:=g) rfl) s (by omega) (by simp only[maxLen]at z;omega) (by rw[B];exact growslice_fits (by omega) (by omega));rw[k]at c;injection c with c _;rw[c]at h;exact am (by simp[Value.ownBlock]at h;omega)
 unfold Oper.wp execOp;simp only[p,resolve,invoke,builtin,jF,jG,jE,jB,bB,dB,W,X,k];exact M _ _ (I d w' J K L)
theorem DL{G:Array Oper}{H:List Oper}{o:Oper}{a:Act}{w:ah}{Q:Exit->Act->bF}(X:o.guard=none)(sl x:Operand)(t:TypeId)(u:o.op=.call {callee:=.builtin .append,args:= #[sl,x],argTypes:= #[t,t]})(base:Nat)(e:TypeId)(i:TypeInfo)(z:P.underlying t=some (.slice e))(r:P.info? e=some i)(F:i.zero=some (.int .u8 0))(f:i.size=1)(C:i.bytes=1)(v:az)(n:Nat)(xs:dI)(Z:a.eval sl=v)(k:w.ownsRowF base e 1 v n xs)(ad:Addr)(d:az)(aa:a.eval x=af (some ad) 1 1)(s:∀j y,[d][j]?=some y->w.cell? (ad.add j)=some y)(L:d.oneCell'=true)(A:n+1<=maxLen)(ai:n+1<=140737488355328)(T:base<=w.heap.size)(K:∀h w',w'.ownsRowF base e 1 h (n+1) (xs++ [d])->w.grownBy w' v.ownBlock->(∀q,h.ownBlock=some q->v.ownBlock=some q\/w.heap.size<=q)->wpList P G Q H (a.put o.dst h) w'):wpList P G Q (o::H) a w:=by
 refine wpList_plain X λae R=>?_;have D:∀y∈[d],y.oneCell'=true:=λy E=>by
  simp only[cr,gj,gq]at E;rw[E];exact L
 have B:=λb S u=>run_append_ownF (P:=P) w b t o.type e i (.int .u8 0) 1 1 z r F f C rfl (by decide) v n xs u ad 1 1 [d] rfl s D A (by omega) S;obtain⟨h,w',m,M,N,_⟩:=B base T k;have O:∀q,h.ownBlock=some q->v.ownBlock=some q\/w.heap.size<=q:=λq l=>by
  rcases k.2 with⟨rfl,rfl⟩|⟨g,cap,I,J,rfl,ag,W,V,al,aj,U,an⟩
  ·obtain⟨ao,ap,p,ab,_⟩:=B w.heap.size (aA _) ⟨k.1,.inl ⟨rfl,rfl⟩⟩;rw[m]at p;injection p with p _;subst p;exact am (ab.lt q l).1
  ·by_cases Y:n+1<=cap
   ·have c:=run_append_roomF (P:=P) w t o.type e i z r g n cap I J W (by rw[f];exact V) ad 1 1 [d] (by rw[f];rfl) s D Y (by rw[f];simp at U ⊢;omega);rw[m]at c;injection c with c _;rw[c]at l;exact ak l
   ·have c:=run_append_grow (P:=P) w t o.type e i (.int .u8 0) z r F ⟨g,0,none⟩ n cap xs (by rw[f];exact k.1) (k.cells (g:=g) rfl) ad 1 1 [d] (by rw[f];rfl) s (by omega) (by simp only[maxLen]at A;omega) (by rw[C];exact growslice_fits (by omega) (by omega));rw[m]at c;injection c with c _;rw[c]at l;exact am (by simp[Value.ownBlock]at l;omega)
 unfold Oper.wp execOp;simp only[u,resolve,invoke,builtin,jF,jG,jE,jB,bB,dB,Z,aa,m];exact R _ _ (K h w' M N O)
end
theorem vJ(b:Nat)(w:ah)(c:w.cell? ⟨b,0,none⟩=some (aF b)):au 23 #[aF b] w λe w'=>e=aw (ax #[])/\w'=w:=by
 obtain⟨d,a,_⟩:=cJ.1 sizeBuilder;go_enter func23,ntmps23;go_wp2;rw[Lib.run_neq_ptr_same w _ underlying35 a];go_wp2
 go_end0
 exact⟨rfl,rfl⟩
theorem uF(b:Nat)(w:ah)(f:w.cell? ⟨b,0,none⟩=some (.pointer none))(c:w.shape? b=some (38,2))(g:w.frozen? ⟨b,0,none⟩=false):au 23 #[aF b] w λe w'=>e=aw (ax #[])/\w'=w.setCell ⟨b,0,none⟩ (aF b):=by
 obtain⟨h,a,d⟩:=cJ.1 sizeBuilder;go_enter func23,ntmps23;go_wp2;rw[Lib.run_to_unsafe w ⟨b,0,none⟩ underlying35 underlying63 a (by rw[d];decide) c (Nat.zero_lt_succ 1)];simp only[Result.andThen];rw[Oper.upon_value];go_wp2;rw[run_callFunc_extern func30 (by kernel_rfl) (by kernel_rfl) (by kernel_rfl) (e:=Extern.AbiNoEscape.same) (by kernel_rfl)];rw[Lib.run_noEscape];simp only[Result.andThen];rw[Oper.upon_value];go_wp2;rw[Lib.run_from_unsafe w ⟨b,0,none⟩ underlying63 underlying35 a c liesBuilder];simp only[Result.andThen];rw[Oper.upon_value];go_wp2
 go_end0
 exact⟨rfl,rfl⟩
theorem qx(B b:Nat)(l:List UInt8)(w:ah)(a:Bu B b l w):au 23 #[aF b] w λe w'=>e=aw (ax #[])/\Lib.BuilderAtF 38 5 B b (aF b) (Lib.byteCells l) w'/\Below B w w'/\Lib.OthersKept 5 (some b) w w'/\QV b w w':=by
 rcases a with a|a
 ·refine(uF b w a.cell0 a.shape a.frozen0).mono ?_;rintro e w' ⟨rfl,rfl⟩;exact⟨rfl,a.used _,(aH B w).setCell (p:=⟨b,0,none⟩) a.1 _,(Lib.OthersKept.refl _ _ w).setCell ⟨b,0,none⟩ rfl _,am rfl⟩
 ·refine(vJ b w a.cell0).mono ?_;rintro e w' ⟨rfl,rfl⟩;exact⟨rfl,a,aH B _,Lib.OthersKept.refl _ _ _,ak rfl⟩
theorem lt_of_heap{o:Obj}(a:w.heap[b]?=some o):b<w.heap.size:=(aS.1 a).1
theorem pA(B b:Nat)(l:List UInt8)(c:UInt8)(w:ah)(M:Bu B b l w)(aa:l.length+1<=140737488355328)(Z:B<=w.heap.size):au 14 #[aF b,.int .u8 c.toNat] w λe w'=>e=.returned .nilIface/\dE B b (l++ [c]) w w'/\Ol b w w':=by
 obtain⟨S,E,H,I,J⟩:=bT infoByte;have D:=Lib.byteCells_length l;have z:=av D;have r:=av (⟨E,H,I,J⟩:_/\_/\_/\_);clear D E H I J;go_enter func14,ntmps14;go_wp2_with fail;refine(qx B b l _ M).mono ?_;rintro e n ⟨rfl,N,d,j,G⟩;obtain⟨i,y,a,h,m⟩:=N;have L:n.cell? ⟨b,0,none⟩=some (aF b):=by rw[fp a];rfl
 have c1:n.cell? ⟨b,1,none⟩=some y:=by rw[fp a];rfl
 have q:=av (⟨i,a,h,m,d,j⟩:_/\_/\_/\_/\_/\_);have C:=av (⟨G,c1⟩:_/\_);clear G;clear i a h m d j;go_wp2_with (at_builtin;refine DL rfl _ _ 36 rfl B 5 S underlying36 r.out.1 r.out.2.1 r.out.2.2.1 r.out.2.2.2 _ _ _ rfl (q.out.2.2.1.alloc _) ⟨n.heap.size,0,none⟩ (.int .u8 c.toNat) rfl ?c1 rfl ?c3 ?c4 ?c5 ?_)
 case c1=>
  intro U ab t
  match U,t with
  | 0,t=>simp at t;subst t;simp[Addr.add]
 case c3=>rw[z.out];unfold maxLen;omega
 case c4=>rw[z.out];omega
 case c5=>have:=q.out.2.2.2.2.1.size;simp;omega
 intro V v o g F;have A:=av (⟨g,F⟩:_/\_);clear F;obtain⟨i,a,h,m,d,j⟩:=q.out;have P:=lt_of_heap a;have f:v.heap[b]?=some (.cells #[aF b,y] 38 (0,0)):=by
  rw[g.block b (by simp;omega) (λe=>m e.symm),Lib.alloc_old n _ b P];exact a
 have d0:v.cell? ⟨b,0,none⟩=some (aF b):=by rw[fp f];rfl
 have d1:v.cell? ⟨b,1,none⟩=some y:=by rw[fp f];rfl
 have f1:v.frozen? ⟨b,1,none⟩=false:=Lib.frozen_of_heap f 1;obtain⟨s,cap,rfl⟩:∃s cap,V=af (some ⟨s,0,none⟩) ((Lib.byteCells l).length+1) cap:=by
  rcases o.2 with⟨_,Y⟩|⟨s,cap,W,X,R,_⟩
  ·omega
  ·exact⟨s,cap,R⟩
 have K:=av (⟨o,g,f⟩:_/\_/\_);clear o g f a h m d j L c1;go_wp2
 go_ret
 obtain⟨i,a,h,m,d,j⟩:=q.out;obtain⟨o,g,f⟩:=K.out;refine⟨rfl,⟨am ?_,?_,((j.alloc _).grown g (Lib.ownsRowF_kind (h.alloc _))).setCell ⟨b,1,none⟩ rfl _⟩,Ol.mk C.1 C.2 (λu x Q=>(A.1.block u (by simp;omega) Q).trans (Lib.alloc_old n _ u x)) d1 λu x=>(A.2 u x).imp id λad=>by have:=fP n (.cells #[.int .u8 c.toNat] 5);omega⟩
 ·have e:Lib.byteCells (l++ [c])=Lib.byteCells l++ [.int .u8 c.toNat]:=by simp[Lib.byteCells]
  rw[e];exact Lib.BuilderAtF.put (T:=38) (e:=5) i f (by simpa using o) (by decide)
 ·exact((d.alloc (by have:=d.size;omega) _).grown g (by have:=d.size;simp;omega) (λk O=>(h.lt k O).1)).setCell (p:=⟨b,1,none⟩) i _
theorem mN(B b:Nat)(l:List UInt8)(s:aq)(w:ah)(L:Bu B b l w)(W:l.length+s.size<=140737488355328)(V:B<=w.heap.size):au 12 #[aF b,ag s] w λe w'=>e=aw (ax #[ae s.size,.nilIface])/\dE B b (l++s.data.toList) w w'/\Ol b w w':=by
 obtain⟨P,A,E,F,G⟩:=bT infoByte;have u:=av (Lib.byteCells_length l);have o:=av (⟨A,E,F,G⟩:_/\_/\_/\_);clear A E F G;go_enter func12,ntmps12;go_wp2_with fail;refine(qx B b l _ L).mono ?_;rintro e I ⟨rfl,M,c,i,D⟩;obtain⟨h,t,a,g,j⟩:=M;have K:I.cell? ⟨b,0,none⟩=some (aF b):=by rw[fp a];rfl
 have z:I.cell? ⟨b,1,none⟩=some t:=by rw[fp a];rfl
 have n:=av (⟨h,a,g,j,c,i⟩:_/\_/\_/\_/\_/\_);have x:=av (⟨D,z⟩:_/\_);clear D;clear h a g j c i;go_wp2_with (at_builtin;refine DM rfl _ _ 36 9 rfl B 5 P underlying36 underlying9 o.out.1 o.out.2.1 o.out.2.2.1 o.out.2.2.2 _ _ _ rfl n.out.2.2.1 s rfl ?c3 ?c4 ?c5 ?_)
 case c3=>rw[u.out];unfold maxLen;omega
 case c4=>rw[u.out];omega
 case c5=>have:=n.out.2.2.2.2.1.size;omega
 intro Q q m f C;have v:=av (⟨f,C⟩:_/\_);clear C;obtain⟨h,a,g,j,c,i⟩:=n.out;have O:=lt_of_heap a;have d:q.heap[b]?=some (.cells #[aF b,t] 38 (0,0)):=by
  rw[f.block b O (λe=>j e.symm)];exact a
 have d0:q.cell? ⟨b,0,none⟩=some (aF b):=by rw[fp d];rfl
 have d1:q.cell? ⟨b,1,none⟩=some t:=by rw[fp d];rfl
 have f1:q.frozen? ⟨b,1,none⟩=false:=Lib.frozen_of_heap d 1;obtain⟨y,H,cap,rfl⟩:∃y H cap,Q=af y H cap:=by
  rcases m.2 with⟨r,_⟩|⟨U,cap,R,S,r,_⟩
  ·exact⟨_,_,_,r⟩
  ·exact⟨_,_,_,r⟩
 have J:=av (⟨m,f,d⟩:_/\_/\_);clear m f d a g j c i K z;go_wp2
 go_ret2
 obtain⟨h,a,g,j,c,i⟩:=n.out;obtain⟨m,f,d⟩:=J.out;refine⟨rfl,⟨am ?_,?_,(i.grown f (Lib.ownsRowF_kind g)).setCell ⟨b,1,none⟩ rfl _⟩,Ol.mk x.1 x.2 v.1.block d1 v.2⟩
 ·have e:Lib.byteCells (l++s.data.toList)=Lib.byteCells l++Lib.strCells s:=by rw[Lib.byteCells_append];rfl
  rw[e];exact Lib.BuilderAtF.put (T:=38) (e:=5) h d (bs':=Lib.byteCells l++Lib.strCells s) (by simpa [Lib.strCells_length]using m) (by decide)
 ·exact(c.grown f (by have:=c.size;omega) (λk N=>(g.lt k N).1)).setCell (p:=⟨b,1,none⟩) h _
theorem xS(B b:Nat)(l:List UInt8)(c:UInt8)(w:ah)(a:Bu B b l w)(f:l.length+1<=140737488355328)(d:B<=w.heap.size):au 14 #[aF b,.int .u8 c.toNat] w λe w'=>e=.returned .nilIface/\dE B b (l++ [c]) w w':=
 (pA B b l c w a f d).mono λ_ _ a=>⟨a.1,a.2.1⟩
theorem kF(B b:Nat)(l:List UInt8)(s:aq)(w:ah)(a:Bu B b l w)(d:l.length+s.size<=140737488355328)(c:B<=w.heap.size):au 12 #[aF b,ag s] w λe w'=>e=aw (ax #[ae s.size,.nilIface])/\dE B b (l++s.data.toList) w w':=
 (mN B b l s w a d c).mono λ_ _ a=>⟨a.1,a.2.1⟩
theorem Bu.old{l:List UInt8}(j:Bu B b l w)(e:ap w w'):Bu B b l w':=by
 have key:∀c,Lib.BuilderAtF 38 5 B b c (Lib.byteCells l) w->Lib.BuilderAtF 38 5 B b c (Lib.byteCells l) w':=by
  rintro c ⟨m,s,f,p,o⟩;refine⟨m,s,(e.block b (lt_of_heap f)).trans f,?_,o⟩;obtain⟨k,a⟩:=p;refine⟨k,?_⟩;rcases a with a|⟨d,cap,h,i,q,n,g,r⟩
  ·exact ak a
  ·exact am ⟨d,cap,h,i,q,n,(e.block d (lt_of_heap g)).trans g,r⟩
 exact j.imp (key _) (key _)
theorem Bu.lt{B b:Nat}{l:List UInt8}{w:ah}(a:Bu B b l w):B<=b/\b<w.heap.size:=by
 rcases a with a|a
 ·exact⟨a.1,a.lt⟩
 ·exact⟨a.1,a.lt⟩
theorem K7{b:dd}(c:ap w w'):Lib.OthersKept 5 b w w':=λk _ a _ _=>(c.block k (lt_of_heap a)).trans a
theorem yw(d:Lib.OthersKept 5 (some b) w w'){k:Nat}{cs:Array az}{t:TypeId}{fr:Nat×Nat}(f:w.heap[k]?=some (.cells cs t fr))(g:k≠b)(h:t≠5):
    w'.heap[k]?=some (.cells cs t fr):=d k _ f (by simpa using g) (λc i e=>by injection e with _ a _;exact h a)
def xA(B : Nat)(w : World): Prop := Lib.TabBelow Tryz.prog B w "internal/strconv.uint64pow10" .u64 Lib.pow10Tab
theorem jU(n:Int)(a: -9223372036854775808<=n)(b:n<=9223372036854775807)(B:Nat)(w:ah)(c:xA B w):au 22 #[ae n] w λe w'=>e=aw (ag ⟨(Lib.itoa n).toArray⟩)/\ap w w':=by
 refine(Tryz.strconv_Itoa n a b w c.here).mono ?_;rintro e w' ⟨rfl,k,os,rfl⟩;exact⟨rfl,Lib.below_grow _ _ (aA _) _ _⟩
end Go.Proofs.YthjclakhibnamaaGreatDoor
