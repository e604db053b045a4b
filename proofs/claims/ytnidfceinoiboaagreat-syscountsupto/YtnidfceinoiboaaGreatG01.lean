/- What is proved here: plain facts and contracts that the claimed theorem stands on. No condition but those that each names. -/
import Derived.Test.YtnidfceinoiboaaGreatRows
import Derived.WalkKit
import Derived.WalkSpells
import Derived.WalkLawsBesides
import Derived.Deep.AppendLies
namespace Go.Proofs.YtnidfceinoiboaaGreat
open Go.RowKit
abbrev ae:= @Or.inl
abbrev af:= @Or.inr
abbrev ag:= @Nat.le_refl
abbrev ah:= @Below.refl
abbrev ao:= @bodyPost_ret
abbrev ap:= @Option.some.inj
abbrev au:= @Nat.le_trans
abbrev aE:= @Array.getElem?_eq_some_iff
abbrev ax:= @heap_alloc_new
abbrev ay:= @List.mem_of_getElem?
abbrev az:= @Bool.and_eq_true
abbrev aA:= @List.getElem?_eq_getElem
abbrev aD:= @Nat.zero_le
abbrev aH:= @List.map_cons
abbrev aK:= @List.getElem?_eq_some_iff
abbrev aL:= @Nat.lt_of_lt_of_le
abbrev aW:= @List.length_cons
abbrev aX:= @List.length_append
abbrev bj:= @List.flatMap_cons
abbrev bk:= @List.take_of_length_le
abbrev br:= @List.mem_cons
abbrev bt:= @List.sum_cons
abbrev bz:= @Option.bind_eq_some_iff
abbrev bJ:= @Array.getElem?_modify
abbrev bK:= @List.eq_nil_of_length_eq_zero
abbrev bL:= @List.setIfInBounds_toArray
abbrev bM:= @info_parts
abbrev bN:= @decide_eq_true_eq
abbrev bQ:= @List.map_nil
abbrev bR:= @List.mem_cons_of_mem
abbrev bS:= @List.all_eq_true
abbrev bV:= @run_underlying
abbrev ci:= @beq_iff_eq
abbrev cB:= @List.getElem?_of_mem
abbrev cC:= @List.mem_map
abbrev cD:= @Option.map_eq_some_iff
abbrev cH:= @List.getElem?_cons_zero
abbrev cI:= @if_true
abbrev cT:= @List.getElem?_cons_succ
abbrev cU:= @Nat.zero_add
abbrev cY:= @List.getElem?_append_left
abbrev cZ:= @List.set_cons_succ
abbrev da:= @List.set_cons_zero
abbrev dh:= @List.getElem?_map
abbrev di:= @List.mem_append
abbrev dj:= @List.mem_singleton
abbrev dk:= @Option.bind_some
abbrev dn:= @List.length_take
abbrev dp:= @Nat.le_of_eq
abbrev dq:= @World.grownBy_alloc
abbrev du:= @ByteArray.toList_eq
abbrev dv:= @List.not_mem_nil
abbrev dw:= @List.take_add_one
abbrev dx:= @or_false
abbrev dN:= @List.getElem?_append_right
abbrev dO:= @List.length_map
abbrev dP:= @bodyPost_end
abbrev ed:= @Bool.true_and
abbrev ee:= @List.append_nil
abbrev eg:= @World.ownsRow_nil
abbrev eE:= @Addr.add_lit
abbrev eF:= @List.drop_eq_getElem_cons
abbrev eG:= @List.length_drop
abbrev eH:= @List.nodup_append
abbrev eI:= @Nat.add_sub_cancel
abbrev eP:= @List.getElem?_eq_none
abbrev eQ:= @List.size_toArray
abbrev eR:= @of_decide_eq_true
abbrev fq:= @List.cons_append
abbrev ft:= @List.map_append
abbrev fu:= @List.map_map
abbrev fw:= @Nat.le_succ
abbrev fJ:= @List.drop_eq_nil_of_le
abbrev fK:= @List.prefix_refl
abbrev fL:= @Option.isSome_iff_exists
abbrev gG:= @Array.length_toList
abbrev gH:= @Bool.and_self
abbrev gI:= @Bool.or_eq_true
abbrev gJ:= @List.find?_cons
abbrev gK:= @List.foldl_cons
abbrev gL:= @List.set_append_right
abbrev gM:= @Prod.ext
abbrev gN:= @Prod.mk.injEq
abbrev gO:= @WalkArith.wf_i64
abbrev gP:= @beq_eq_false_iff_ne
abbrev iS:= @List.getElem_mem
abbrev iT:= @List.map_congr_left
abbrev iU:= @List.mem_flatMap
abbrev iV:= @List.sum_nil
abbrev iX:= @List.take_append_of_le_length
abbrev iY:= @Nat.add_zero
abbrev iZ:= @Nat.sub_self
abbrev ja:= @World.cell?_setCell_same
abbrev jb:= @World.size_alloc
abbrev jc:= @decide_eq_true
abbrev kA:= @DataW.trod_int
abbrev ik:= @DataW.trod_struct
abbrev il:= @Int.le_refl
abbrev im:= @List.take_append_drop
abbrev io:= @Nat.le_add_right
abbrev ip:= @Nat.succ_mul
abbrev iq:= @World.frozen?_of_block
abbrev ir:= @World.grownBy.refl
abbrev jL:= @Array.getElem?_toList
abbrev jM:= @List.flatMap_append
abbrev jN:= @List.foldl_append
abbrev jO:= @List.getElem?_drop
abbrev jP:= @List.getElem?_take
abbrev jQ:= @List.length_nil
abbrev jR:= @List.nodup_cons
abbrev jS:= @MapKept.run_getObj_map
abbrev jT:= @Option.isNone_iff_eq_none
abbrev jU:= @Option.isSome_some
abbrev jV:= @Option.not_isSome
abbrev jW:= @Option.some.injEq
abbrev jX:= @World.block_lt_of_cell?
abbrev jY:= @run_makeMap
abbrev jZ:= @wpList_make_full
abbrev lH:= @Bool.false_eq_true
abbrev lI:= @Go.WideMaps.keyOf_string_mk
abbrev lJ:= @List.append_assoc
abbrev lK:= @List.map_toArray
abbrev lL:= @List.mem_append_left
abbrev lM:= @List.nil_append
abbrev lN:= @List.replicate_zero
abbrev lO:= @Option.isSome_none
abbrev lP:= @Result.andThen_ok
abbrev nN:= @Bool.false_ne_true
abbrev nO:= @Bool.not_eq_true'
abbrev nP:= @DataW.trod_string
abbrev nQ:= @List.drop_append_of_le_length
abbrev nR:= @List.find?_eq_none
abbrev nS:= @List.findIdx?_eq_none_iff
abbrev nT:= @List.getD_eq_getElem?_getD
abbrev nU:= @List.mem_cons_self
abbrev nV:= @List.prefix_append
abbrev nW:= @List.take_succ_eq_append_getElem
abbrev nX:= @List.toList_toArray
abbrev nY:= @UInt8.lt_iff_toNat_lt
abbrev nZ:= @World.cells?_some
abbrev oc:= @World.ownsMap_made
abbrev od:= @World.ownsRow.kept
abbrev oe:= @run_storeCells_at
abbrev qX:= @ChangeMaps.heap_setBlock_same
abbrev qY:= @List.eraseIdx_eq_take_drop_succ
abbrev qZ:= @List.getElem?_take_of_lt
abbrev rb:= @List.map_eq_singleton_iff
theorem iw{k:IntKind}{a b:Int}(c:a=b):Ending.returned (.int k a)=.returned (.int k b):=by rw[c]
theorem ai{p:Prop}(a:p):Hid p:=a
theorem co{w w1:World}(a:Below w.drew.heap.size w.drew w1):Below w.heap.size w w1:=⟨a.os,a.tape,a.output,a.size,a.block⟩
theorem aj{B:Nat}{w w1:World}(a:Below B w w1):∀b o,b<B->w1.cell? ⟨b,o,none⟩=w.cell? ⟨b,o,none⟩:=λb o c=>a.cell (p:=⟨b,o,none⟩) c
def Tm:Nat->Type
 | 0=>Unit
 | n+1=>(Int×Int×ByteArray)×(Option Addr×Nat)×List (Tm n)
def dg:(n:Nat)->Tm n->Value
 | 0,_=> .nilIface
 | _+1,x=> .agg #[.int .i64 x.1.1,.int .i64 x.1.2.1,.string x.1.2.2,.slice x.2.1.1 x.2.2.length x.2.1.2]
def dr(w:World)(b o:Nat):(n:Nat)->Tm n->Prop
 | 0,_=>False
 | _+1,x=>w.cell? ⟨b,o,none⟩=some (.int .i64 x.1.1)/\w.cell? ⟨b,o+1,none⟩=some (.int .i64 x.1.2.1)/\
    w.cell? ⟨b,o+2,none⟩=some (.string x.1.2.2)/\w.cell? ⟨b,o+3,none⟩=some (.slice x.2.1.1 x.2.2.length x.2.1.2)
def dc(k:Int):Prop:=-9223372036854775808<=k/\k<=9223372036854775807
def In(B:Nat)(w:World):(n:Nat)->Tm n->Prop
 | 0,_=>False
 | n+1,x=>(dc x.1.1/\dc x.1.2.1/\x.1.2.2.size<=maxLen/\x.2.2.length<=x.2.1.2/\x.2.1.2<=maxLen)/\
    (x.2.2=[]\/∃b o,x.2.1.1=some ⟨b,o,none⟩/\b<B/\∀(i:Nat)(y:Tm n),x.2.2[i]?=some y->dr w b (o+i*4) n y/\In B w n y)
theorem dr.below{B:Nat}{w w':World}(a:Below B w w'){b o:Nat}(c:b<B):{n:Nat}->{x:Tm n}->dr w b o n x->dr w' b o n x
 | 0,_,k=>k
 | _+1,_,k=>by
  obtain⟨d,e,f,g⟩:=k;exact⟨(a.cell (p:=⟨b,o,none⟩) c).trans d,(a.cell (p:=⟨b,o+1,none⟩) c).trans e,(a.cell (p:=⟨b,o+2,none⟩) c).trans f,(a.cell (p:=⟨b,o+3,none⟩) c).trans g⟩
theorem In.below{B:Nat}{w w':World}(c:Below B w w'):{n:Nat}->{x:Tm n}->In B w n x->In B w' n x
 | 0,_,k=>k
 | _+1,_,k=>by
  obtain⟨g,a⟩:=k;refine⟨g,?_⟩;rcases a with a|⟨b,o,e,d,a⟩
  ·exact ae a
  ·exact af ⟨b,o,e,d,λi y f=>⟨(a i y f).1.below c d,(a i y f).2.below c⟩⟩
theorem In.mono{B C:Nat}(d:B<=C){w:World}:{n:Nat}->{x:Tm n}->In B w n x->In C w n x
 | 0,_,k=>k
 | _+1,_,k=>by
  obtain⟨f,a⟩:=k;refine⟨f,?_⟩;rcases a with a|⟨b,o,e,g,a⟩
  ·exact ae a
  ·exact af ⟨b,o,e,by omega,λi y c=>⟨(a i y c).1,(a i y c).2.mono d⟩⟩
def mJ(x y:Int):Int:=if x<y then -1 else if y<x then 1 else 0
def ut(x y:ByteArray):Int:=if Op.bytesLess x.toList y.toList then -1 else if !Op.bytesLess x.toList y.toList && !(x.toList==y.toList)then 1 else 0
def oo{c d:Type}(f:c->d->Int):List c->List d->Int
 | a::p,b::q=>if f a b=0 then oo f p q else f a b
 | _,_=>0
def vo:(n:Nat)->Tm n->(m:Nat)->Tm m->Int
 | n+1,x,m+1,y=>
  if x.1.1=y.1.1 then
   if x.1.1=1\/x.1.1=3\/x.1.1=5 then mJ x.1.2.1 y.1.2.1
   else if x.1.1=2 then ut x.1.2.2 y.1.2.2
   else if x.1.1=4 then
    if x.2.2.length=y.2.2.length then oo (λa b=>vo n a m b) x.2.2 y.2.2 else mJ x.2.2.length y.2.2.length
   else 0
  else mJ x.1.1 y.1.1
 | _,_,_,_=>0
theorem DX{c d:Type}(f:c->d->Int)(p:List c)(q:List d)(k:Nat)(a:c)(b:d)(j:p[k]?=some a)(l:q[k]?=some b):oo f (p.drop k) (q.drop k)=if f a b=0 then oo f (p.drop (k+1)) (q.drop (k+1))else f a b:=by
 obtain⟨h,e⟩:=aK.1 j;obtain⟨i,g⟩:=aK.1 l;rw[eF h,eF i,e,g];rfl
abbrev Nd:Type:=(Int×Int×ByteArray)×(Option Addr×Nat×Nat)
def vj(x:Nd):List Value:=[.int .i64 x.1.1,.int .i64 x.1.2.1,.string x.1.2.2,.slice x.2.1 x.2.2.1 x.2.2.2]
def cO(l:List Nd):List Value:=l.flatMap vj
def aq:(n:Nat)->Tm n->List Nd
 | 0,_=> [((0,0,.empty),(none,0,0))]
 | n+1,x=>(x.1,(x.2.1.1,x.2.2.length,x.2.1.2))::x.2.2.flatMap λy=>aq n y
def mK:(n:Nat)->Tm n->Int->List Int
 | 0,_,d=> [d]
 | n+1,x,d=>d::x.2.2.flatMap λy=>mK n y (d+1)
theorem yB{b d e:Type}(f:b->List d)(g:b->List e)(c:∀a,(f a).length=(g a).length)(l:List b):(l.flatMap f).length=(l.flatMap g).length:=by
 induction l with
 | nil=>rfl
 | cons a l ih=>simp only[bj,aX,ih,c]
theorem ju:(n:Nat)->(x:Tm n)->(d:Int)->(mK n x d).length=(aq n x).length
 | 0,_,_=>rfl
 | n+1,x,d=>by
  simp only[mK,aq,aW];rw[yB (λy=>mK n y (d+1)) (λy=>aq n y) (λy=>ju n y (d+1))]
theorem mU(l:List Nd):(cO l).length=l.length*4:=by
 induction l with
 | nil=>rfl
 | cons a l ih=>simp only[cO,bj,aX,aW]at ih ⊢;rw[ih];simp[vj];omega
theorem tD(l r:List Nd):cO (l++r)=cO l++cO r:=by simp[cO]
theorem rA(l:List Nd):∀u∈cO l,u.oneCell'=true:=by
 intro u a;simp only[cO,iU,vj]at a;obtain⟨b,_,a⟩:=a;simp at a;rcases a with rfl|rfl|rfl|rfl<;>rfl
theorem Ex{a e:Type}(f:a->List e)(l:List a)(k:Nat)(x:a)(c:l[k]?=some x):(l.take (k+1)).flatMap f=(l.take k).flatMap f++f x:=by
 obtain⟨d,b⟩:=aK.1 c;rw[nW d,b];simp
theorem CS{a b:Type}(f:a->List b)(l:List a)(k:Nat):((l.take k).flatMap f).length<=(l.flatMap f).length:=by
 conv=>rhs;rw[<-im k l]
 rw[jM,aX];omega
theorem dF{w w':World}{base e size:Nat}{v:Value}{n:Nat}{xs:List Value}(b:w.ownsRow base e size v n xs)(a:Below w.heap.size w w'):w'.ownsRow base e size v n xs:=
 b.kept (row:=none) ⟨a.os,a.tape,a.output,a.size,λk c _=>a.block k c⟩ (by cases v.ownBlock<;>simp)
theorem pT{w:World}{base b e size:Nat}{v:Value}{n:Nat}{xs:List Value}(f:w.ownsRow base e size v n xs)(k:b<=base):w.ownsRow b e size v n xs:=by
 obtain⟨g,a⟩:=f;refine⟨g,?_⟩;rcases a with a|⟨d,cap,c,i,l,h,j⟩
 ·exact ae a
 ·exact af ⟨d,cap,c,i,by omega,h,j⟩
theorem gA:(Tryz.prog.info? 30).map (λi=>(i.zero,i.size,i.bytes))=some (some (.agg #[.int .i64 0,.int .i64 0,.string .empty,.slice none 0 0]),4,56):=by kernel_rfl
theorem Cy:(Tryz.prog.info? 3).map (λi=>(i.zero,i.size,i.bytes))=some (some (.int .i64 0),1,8):=by kernel_rfl
def kK(n lo a:Int):Bool:=decide (lo<=n) && decide (n<=a)
def ol(c:UInt8):Bool:=decide (97<=(c.toNat:Int)) && decide ((c.toNat:Int)<=122)
def fk(l:List UInt8):Bool:=l.all ol
def cg(s:ByteArray):Bool:=kK s.size 1 8 && fk s.data.toList
theorem bF{a b:Bool}(c:a=b):Ending.returned (.bool a)=.returned (.bool b):=by rw[c]
theorem Ez(s:ByteArray)(k:Nat)(a:k<s.size):s.data.toList.take (k+1)=s.data.toList.take k++ [s[k]]:=by
 rw[nW (by simpa using a)];rfl
theorem A8(s:ByteArray)(k:Nat)(a:k<s.size):fk (s.data.toList.take (k+1))=(fk (s.data.toList.take k) && ol s[k]):=by
 rw[Ez s k a];simp[fk]
def sz:(n:Nat)->Tm n->Int
 | 0,_=>0
 | n+1,x=>if x.1.1=4 then 1+(x.2.2.map λy=>1+sz n y).sum else 0
theorem eC:(n:Nat)->(x:Tm n)->0<=sz n x/\sz n x+1<=2*((aq n x).length:Int)
 | 0,_=>⟨by simp[sz],by simp[sz,aq]⟩
 | n+1,x=>by
  have key:∀l:List (Tm n),0<=(l.map λy=>1+sz n y).sum/\(l.map λy=>1+sz n y).sum<=2*((l.flatMap λy=>aq n y).length:Int):=by
   intro l
   induction l with
   | nil=>exact⟨by simp,by simp⟩
   | cons y l ih=>
    have b:=eC n y;simp only[aH,bt,bj,aX];exact⟨by omega,by omega⟩
  have k:=key x.2.2;simp only[sz,aq,aW];by_cases a:x.1.1=4
  ·rw[if_pos a];exact⟨by omega,by omega⟩
  ·rw[if_neg a];exact⟨by omega,by omega⟩
def bT(x:Nd):Bool:=
 (if x.1.1=1 then x.1.2.2.toList.isEmpty && kK x.1.2.1 (-1099511627776) 1099511627776
  else if x.1.1=2 then cg x.1.2.2 && x.1.2.1==0
  else if x.1.1=3 then x.1.2.2.toList.isEmpty && kK x.1.2.1 1 99
  else if x.1.1=4 then x.1.2.2.toList.isEmpty && x.1.2.1==0 && decide ((x.2.2.1:Int)<=8)
  else if x.1.1=5 then x.1.2.2.toList.isEmpty && kK x.1.2.1 0 3
  else if x.1.1=6 then x.1.2.2.toList.isEmpty && x.1.2.1==0
  else false) && (x.1.1==4 || !decide ((0:Int)<(x.2.2.1:Int)))
def kT(x:Nd)(d m:Int):Int:=if x.1.1=4/\m<d+1 then d+1 else m
def xZ(z:Int):List Nd->List Int->Int->Int
 | x::l,d::ds,m=>if bT x then xZ z l ds (kT x d m)else 5
 | _,_,m=>if 12<m\/200<z then 2 else 0
def bA(n:Nat)(x:Tm n):Int:=xZ (sz n x) (aq n x) (mK n x 0) 0
theorem ia(l:List Nd)(k:Nat)(x:Nd)(b:l[k]?=some x)(j:Nat)(e:j<4):(cO l)[k*4+j]?=(vj x)[j]? :=by
 induction l generalizing k with
 | nil=>simp at b
 | cons a l ih=>
  have c:cO (a::l)=vj a++cO l:=rfl;have d:(vj a).length=4:=rfl;rw[c];cases k with
  | zero=>
   have:a=x:=by simpa using b
   subst this;rw[cY (by omega)];simp
  | succ k=>
   rw[dN (by omega),d,<-ih k (by simpa using b)];congr 1;omega
theorem fi(g j:Nat):(⟨g,0,none⟩:Addr).add j=⟨g,j,none⟩:=by unfold Addr.add;split<;>simp_all
theorem Gk{w:World}{base g c L:Nat}{l:List Nd}(d:w.ownsRow base 30 4 (.slice (some ⟨g,0,none⟩) L c) L (cO l))(k:Nat)(x:Nd)(b:l[k]?=some x):w.cell? ⟨g,k*4,none⟩=some (.int .i64 x.1.1)/\w.cell? ⟨g,k*4+1,none⟩=some (.int .i64 x.1.2.1)/\w.cell? ⟨g,k*4+2,none⟩=some (.string x.1.2.2)/\w.cell? ⟨g,k*4+3,none⟩=some (.slice x.2.1 x.2.2.1 x.2.2.2):=by
 have a:=d.cells (g:=g) rfl;refine⟨?_,?_,?_,?_⟩
 ·have:=a (k*4+0) (.int .i64 x.1.1) (by rw[ia l k x b 0 (by omega)];rfl);rw[fi]at this;exact this
 ·have:=a (k*4+1) (.int .i64 x.1.2.1) (by rw[ia l k x b 1 (by omega)];rfl);rw[fi]at this;exact this
 ·have:=a (k*4+2) (.string x.1.2.2) (by rw[ia l k x b 2 (by omega)];rfl);rw[fi]at this;exact this
 ·have:=a (k*4+3) (.slice x.2.1 x.2.2.1 x.2.2.2) (by rw[ia l k x b 3 (by omega)];rfl);rw[fi]at this;exact this
end Go.Proofs.YtnidfceinoiboaaGreat
