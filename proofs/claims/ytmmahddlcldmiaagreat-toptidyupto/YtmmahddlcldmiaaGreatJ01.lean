/- Proved here: plain facts and contracts. No condition but what each names. -/
import Derived.Test.YtmmahddlcldmiaaGreatRows
import Derived.WalkKit
import Derived.WalkSpells
import Derived.WalkLawsBesides
import Derived.Deep.AppendLies
namespace Go.Proofs.YtmmahddlcldmiaaGreat
open Go.RowKit
abbrev ah:= @Or.inl
abbrev ai:= @Or.inr
abbrev am:= @Nat.le_refl
abbrev ao:= @Below.refl
abbrev av:= @bodyPost_ret
abbrev aw:= @Option.some.inj
abbrev az:= @Nat.le_trans
abbrev aF:= @Array.getElem?_eq_some_iff
abbrev aA:= @heap_alloc_new
abbrev aG:= @Bool.and_eq_true
abbrev aH:= @Nat.zero_le
abbrev aI:= @List.getElem?_eq_getElem
abbrev aJ:= @List.mem_of_getElem?
abbrev aN:= @List.map_cons
abbrev aR:= @Nat.lt_of_lt_of_le
abbrev aS:= @List.getElem?_eq_some_iff
abbrev bi:= @List.length_cons
abbrev bm:= @List.length_append
abbrev bu:= @Option.bind_eq_some_iff
abbrev bA:= @List.take_of_length_le
abbrev bE:= @List.eq_nil_of_length_eq_zero
abbrev bF:= @List.flatMap_cons
abbrev bI:= @List.sum_cons
abbrev bJ:= @Array.getElem?_modify
abbrev bM:= @List.mem_cons_of_mem
abbrev bR:= @info_parts
abbrev bY:= @List.setIfInBounds_toArray
abbrev b8:= @List.map_nil
abbrev b9:= @List.mem_map
abbrev cd:= @decide_eq_true_eq
abbrev ci:= @List.all_eq_true
abbrev cm:= @List.mem_cons
abbrev co:= @Option.map_eq_some_iff
abbrev cq:= @run_underlying
abbrev cu:= @ByteArray.toList_eq
abbrev cv:= @beq_iff_eq
abbrev cQ:= @List.getElem?_cons_zero
abbrev cR:= @World.grownBy_alloc
abbrev cT:= @if_true
abbrev cW:= @List.getElem?_of_mem
abbrev cX:= @Nat.zero_add
abbrev dg:= @List.getElem?_cons_succ
abbrev dh:= @bodyPost_end
abbrev dl:= @List.mem_append
abbrev dm:= @List.set_cons_succ
abbrev dn:= @List.set_cons_zero
abbrev dr:= @List.getElem?_append_left
abbrev dt:= @List.getElem?_map
abbrev du:= @List.take_add_one
abbrev dA:= @Nat.le_of_eq
abbrev dB:= @Option.bind_some
abbrev dG:= @List.length_take
abbrev dN:= @List.mem_singleton
abbrev dO:= @List.size_toArray
abbrev dZ:= @Addr.add_lit
abbrev ed:= @List.getElem?_append_right
abbrev ee:= @List.length_map
abbrev eh:= @Prod.mk.injEq
abbrev eE:= @Bool.true_and
abbrev eF:= @List.append_nil
abbrev eG:= @List.cons_append
abbrev eH:= @List.drop_eq_getElem_cons
abbrev eI:= @List.getElem?_eq_none
abbrev eJ:= @Nat.add_sub_cancel
abbrev eK:= @World.ownsRow_nil
abbrev eL:= @of_decide_eq_true
abbrev eY:= @Below.heap_setCell
abbrev eZ:= @List.length_drop
abbrev ft:= @List.nodup_append
abbrev fu:= @Option.isSome_iff_exists
abbrev fw:= @Prod.ext
abbrev fx:= @World.block_lt_of_cell?
abbrev fS:= @Nat.le_succ
abbrev gu:= @List.drop_eq_nil_of_le
abbrev gw:= @List.foldl_cons
abbrev gz:= @List.map_map
abbrev gA:= @List.not_mem_nil
abbrev gB:= @List.prefix_refl
abbrev gC:= @Nat.add_zero
abbrev gD:= @World.grownBy.refl
abbrev gE:= @or_false
abbrev ir:= @Array.length_toList
abbrev iu:= @Bool.and_self
abbrev iv:= @Bool.or_eq_true
abbrev iw:= @List.length_nil
abbrev iy:= @List.map_append
abbrev iz:= @List.set_append_right
abbrev iA:= @WalkArith.wf_i64
abbrev iB:= @World.size_alloc
abbrev iC:= @beq_eq_false_iff_ne
abbrev iD:= @rounds_succ
abbrev jF:= @DataW.trod_int
abbrev jG:= @List.find?_cons
abbrev jH:= @List.getElem_mem
abbrev jI:= @List.mem_flatMap
abbrev jJ:= @List.nil_append
abbrev gT:= @List.sum_nil
abbrev gU:= @List.take_append_drop
abbrev gV:= @List.take_append_of_le_length
abbrev gW:= @Nat.le_add_right
abbrev gX:= @Nat.sub_self
abbrev gY:= @World.cell?_setCell_same
abbrev gZ:= @decide_eq_true
abbrev jg:= @DataW.trod_struct
abbrev jh:= @Int.le_refl
abbrev ji:= @List.all_cons
abbrev jj:= @List.foldl_append
abbrev jk:= @List.getElem?_take
abbrev jl:= @List.map_congr_left
abbrev jm:= @Option.some.injEq
abbrev jn:= @World.frozen?_of_block
abbrev kG:= @Bool.not_eq_true'
abbrev kH:= @List.all_append
abbrev kI:= @List.cons.injEq
abbrev kJ:= @List.flatMap_append
abbrev kK:= @List.getElem?_drop
abbrev kL:= @List.mem_map_of_mem
abbrev kM:= @MapKept.run_getObj_map
abbrev kN:= @Option.isNone_iff_eq_none
abbrev kO:= @Option.not_isSome
abbrev kP:= @Result.andThen_ok
abbrev kQ:= @Sem.run_bind
abbrev kR:= @callsIn_wide
abbrev kS:= @wpList_make_full
abbrev kT:= @wp_loop_rounds
abbrev mO:= @Array.getElem?_toList
abbrev mP:= @Go.WideMaps.keyOf_string_mk
abbrev mQ:= @List.append_assoc
abbrev mR:= @List.getD_eq_getElem?_getD
abbrev mS:= @List.map_toArray
abbrev mT:= @List.mem_cons_self
abbrev mU:= @List.nodup_cons
abbrev mV:= @List.replicate_zero
abbrev mW:= @List.take_zero
abbrev mX:= @Option.isSome_none
abbrev mY:= @Option.isSome_some
abbrev mZ:= @Option.map_some
abbrev nb:= @World.cells?_some
abbrev pe:= @Array.replicate_succ
abbrev pf:= @Array.replicate_zero
abbrev ph:= @Bool.false_eq_true
abbrev pi:= @DataW.trod_string
abbrev pj:= @List.append_toArray
abbrev pn:= @List.drop_append_of_le_length
abbrev pq:= @List.drop_of_length_le
abbrev pr:= @List.find?_eq_none
abbrev pt:= @List.findIdx?_eq_none_iff
abbrev pu:= @List.prefix_append
abbrev pw:= @List.push_toArray
abbrev px:= @List.take_succ_eq_append_getElem
abbrev py:= @List.toList_toArray
abbrev pA:= @UInt8.lt_iff_toNat_lt
abbrev pB:= @World.ownsMap_made
abbrev pC:= @World.ownsRow.kept
abbrev pD:= @run_storeCells_at
abbrev sQ:= @ChangeMaps.heap_setBlock_same
abbrev sR:= @List.eraseIdx_eq_take_drop_succ
abbrev sS:= @List.getElem?_take_of_lt
abbrev sT:= @List.mem_or_eq_of_mem_set
abbrev ab(x:Int):Value:=.int .i64 x
abbrev af(s:ByteArray):Value:=.string s
abbrev ae(a:Option Addr)(l c:Nat):Value:=.slice a l c
abbrev aC(b:Nat):Value:=.pointer (some ⟨b,0,none⟩)
abbrev aj(w w':World):Prop:=Below w.heap.size w w'
abbrev ak:=Calls Tryz.prog
theorem jp{k:IntKind}{a b:Int}(c:a=b):Ending.returned (.int k a)=.returned (.int k b):=by rw[c]
theorem ap{p:Prop}(a:p):Hid p:=a
theorem cM{w w1:World}(a:Below w.drew.heap.size w.drew w1):aj w w1:=⟨a.os,a.tape,a.output,a.size,a.block⟩
theorem aq{B:Nat}{w w1:World}(a:Below B w w1):∀b o,b<B->w1.cell? ⟨b,o,none⟩=w.cell? ⟨b,o,none⟩:=λb o c=>a.cell (p:=⟨b,o,none⟩) c
def Tm:Nat->Type
 | 0=>Unit
 | n+1=>(Int×Int×ByteArray)×(Option Addr×Nat)×List (Tm n)
def dq:(n:Nat)->Tm n->Value
 | 0,_=> .nilIface
 | _+1,x=> .agg #[ab x.1.1,ab x.1.2.1,af x.1.2.2,ae x.2.1.1 x.2.2.length x.2.1.2]
def dC(w:World)(b o:Nat):(n:Nat)->Tm n->Prop
 | 0,_=>False
 | _+1,x=>w.cell? ⟨b,o,none⟩=some (ab x.1.1)/\w.cell? ⟨b,o+1,none⟩=some (ab x.1.2.1)/\
    w.cell? ⟨b,o+2,none⟩=some (af x.1.2.2)/\w.cell? ⟨b,o+3,none⟩=some (ae x.2.1.1 x.2.2.length x.2.1.2)
def dx(k:Int):Prop:=-9223372036854775808<=k/\k<=9223372036854775807
def In(B:Nat)(w:World):(n:Nat)->Tm n->Prop
 | 0,_=>False
 | n+1,x=>(dx x.1.1/\dx x.1.2.1/\x.1.2.2.size<=maxLen/\x.2.2.length<=x.2.1.2/\x.2.1.2<=maxLen)/\
    (x.2.2=[]\/∃b o,x.2.1.1=some ⟨b,o,none⟩/\b<B/\∀(i:Nat)(y:Tm n),x.2.2[i]?=some y->dC w b (o+i*4) n y/\In B w n y)
theorem dC.below{B:Nat}{w w':World}(a:Below B w w'){b o:Nat}(c:b<B):{n:Nat}->{x:Tm n}->dC w b o n x->dC w' b o n x
 | 0,_,k=>k
 | _+1,_,k=>by
  obtain⟨d,e,f,g⟩:=k;exact⟨(a.cell (p:=⟨b,o,none⟩) c).trans d,(a.cell (p:=⟨b,o+1,none⟩) c).trans e,(a.cell (p:=⟨b,o+2,none⟩) c).trans f,(a.cell (p:=⟨b,o+3,none⟩) c).trans g⟩
theorem In.below{B:Nat}{w w':World}(c:Below B w w'):{n:Nat}->{x:Tm n}->In B w n x->In B w' n x
 | 0,_,k=>k
 | _+1,_,k=>by
  obtain⟨g,a⟩:=k;refine⟨g,?_⟩;rcases a with a|⟨b,o,e,d,a⟩
  ·exact ah a
  ·exact ai ⟨b,o,e,d,λi y f=>⟨(a i y f).1.below c d,(a i y f).2.below c⟩⟩
theorem In.mono{B C:Nat}(d:B<=C){w:World}:{n:Nat}->{x:Tm n}->In B w n x->In C w n x
 | 0,_,k=>k
 | _+1,_,k=>by
  obtain⟨f,a⟩:=k;refine⟨f,?_⟩;rcases a with a|⟨b,o,e,g,a⟩
  ·exact ah a
  ·exact ai ⟨b,o,e,by omega,λi y c=>⟨(a i y c).1,(a i y c).2.mono d⟩⟩
def lB(x y:Int):Int:=if x<y then -1 else if y<x then 1 else 0
def wF(x y:ByteArray):Int:=if Op.bytesLess x.toList y.toList then -1 else if !Op.bytesLess x.toList y.toList && !(x.toList==y.toList)then 1 else 0
def pJ{c β:Type}(f:c->β->Int):List c->List β->Int
 | a::p,b::q=>if f a b=0 then pJ f p q else f a b
 | _,_=>0
def xG:(n:Nat)->Tm n->(m:Nat)->Tm m->Int
 | n+1,x,m+1,y=>
  if x.1.1=y.1.1 then
   if x.1.1=1\/x.1.1=3\/x.1.1=5 then lB x.1.2.1 y.1.2.1
   else if x.1.1=2 then wF x.1.2.2 y.1.2.2
   else if x.1.1=4 then
    if x.2.2.length=y.2.2.length then pJ (λa b=>xG n a m b) x.2.2 y.2.2 else lB x.2.2.length y.2.2.length
   else 0
  else lB x.1.1 y.1.1
 | _,_,_,_=>0
theorem G4{c β:Type}(f:c->β->Int)(p:List c)(q:List β)(k:Nat)(a:c)(b:β)(i:p[k]?=some a)(j:q[k]?=some b):pJ f (p.drop k) (q.drop k)=if f a b=0 then pJ f (p.drop (k+1)) (q.drop (k+1))else f a b:=by
 obtain⟨g,d⟩:=aS.1 i;obtain⟨h,e⟩:=aS.1 j;rw[eH g,eH h,d,e];rfl
abbrev Nd:Type:=(Int×Int×ByteArray)×(Option Addr×Nat×Nat)
def vv(x:Nd):List Value:=[ab x.1.1,ab x.1.2.1,af x.1.2.2,ae x.2.1 x.2.2.1 x.2.2.2]
def cC(l:List Nd):List Value:=l.flatMap vv
def ay:(n:Nat)->Tm n->List Nd
 | 0,_=> [((0,0,.empty),(none,0,0))]
 | n+1,x=>(x.1,(x.2.1.1,x.2.2.length,x.2.1.2))::x.2.2.flatMap λy=>ay n y
def pP:(n:Nat)->Tm n->Int->List Int
 | 0,_,d=> [d]
 | n+1,x,d=>d::x.2.2.flatMap λy=>pP n y (d+1)
theorem A0{b β d:Type}(f:b->List β)(g:b->List d)(c:∀a,(f a).length=(g a).length)(l:List b):(l.flatMap f).length=(l.flatMap g).length:=by
 induction l with
 | nil=>rfl
 | cons a l ih=>simp only[bF,bm,ih,c]
theorem ke:(n:Nat)->(x:Tm n)->(d:Int)->(pP n x d).length=(ay n x).length
 | 0,_,_=>rfl
 | n+1,x,d=>by
  simp only[pP,ay,bi];rw[A0 (λy=>pP n y (d+1)) (λy=>ay n y) (λy=>ke n y (d+1))]
theorem oo(l:List Nd):(cC l).length=l.length*4:=by
 induction l with
 | nil=>rfl
 | cons a l ih=>simp only[cC,bF,bm,bi]at ih ⊢;rw[ih];simp[vv];omega
theorem vw(l r:List Nd):cC (l++r)=cC l++cC r:=by simp[cC]
theorem tg(l:List Nd):∀u∈cC l,u.oneCell'=true:=by
 intro u a;simp only[cC,jI,vv]at a;obtain⟨b,_,a⟩:=a;simp at a;rcases a with rfl|rfl|rfl|rfl<;>rfl
theorem Hz{a β:Type}(f:a->List β)(l:List a)(k:Nat)(x:a)(c:l[k]?=some x):(l.take (k+1)).flatMap f=(l.take k).flatMap f++f x:=by
 obtain⟨d,b⟩:=aS.1 c;rw[px d,b];simp
theorem FA{a β:Type}(f:a->List β)(l:List a)(k:Nat):((l.take k).flatMap f).length<=(l.flatMap f).length:=by
 conv=>rhs;rw[<-gU k l]
 rw[kJ,bm];omega
theorem dT{w w':World}{base e size:Nat}{v:Value}{n:Nat}{xs:List Value}(b:w.ownsRow base e size v n xs)(a:aj w w'):w'.ownsRow base e size v n xs:=
 b.kept (row:=none) ⟨a.os,a.tape,a.output,a.size,λk c _=>a.block k c⟩ (by cases v.ownBlock<;>simp)
theorem rJ{w:World}{base b e size:Nat}{v:Value}{n:Nat}{xs:List Value}(f:w.ownsRow base e size v n xs)(k:b<=base):w.ownsRow b e size v n xs:=by
 obtain⟨g,a⟩:=f;refine⟨g,?_⟩;rcases a with a|⟨d,cap,c,i,l,h,j⟩
 ·exact ah a
 ·exact ai ⟨d,cap,c,i,by omega,h,j⟩
theorem gm:(Tryz.prog.info? 31).map (λi=>(i.zero,i.size,i.bytes))=some (some (.agg #[ab 0,ab 0,af .empty,ae none 0 0]),4,56):=by kernel_rfl
theorem Fc:(Tryz.prog.info? 3).map (λi=>(i.zero,i.size,i.bytes))=some (some (ab 0),1,8):=by kernel_rfl
def qK(n lo a:Int):Bool:=decide (lo<=n) && decide (n<=a)
def zn(c:UInt8):Bool:=decide (97<=(c.toNat:Int)) && decide ((c.toNat:Int)<=122)
def fZ(l:List UInt8):Bool:=l.all zn
def dQ(s:ByteArray):Bool:=qK s.size 1 8 && fZ s.data.toList
theorem bP{a b:Bool}(c:a=b):Ending.returned (.bool a)=.returned (.bool b):=by rw[c]
theorem sM(s:ByteArray)(k:Nat)(a:k<s.size):s.data.toList.take (k+1)=s.data.toList.take k++ [s[k]]:=by
 rw[px (by simpa using a)];rfl
theorem vm(s:ByteArray)(k:Nat)(a:k<s.size):fZ (s.data.toList.take (k+1))=(fZ (s.data.toList.take k) && zn s[k]):=by
 rw[sM s k a];simp[fZ]
def sz:(n:Nat)->Tm n->Int
 | 0,_=>0
 | n+1,x=>if x.1.1=4 then 1+(x.2.2.map λy=>1+sz n y).sum else 0
theorem eX:(n:Nat)->(x:Tm n)->0<=sz n x/\sz n x+1<=2*((ay n x).length:Int)
 | 0,_=>⟨by simp[sz],by simp[sz,ay]⟩
 | n+1,x=>by
  have key:∀l:List (Tm n),0<=(l.map λy=>1+sz n y).sum/\(l.map λy=>1+sz n y).sum<=2*((l.flatMap λy=>ay n y).length:Int):=by
   intro l
   induction l with
   | nil=>exact⟨by simp,by simp⟩
   | cons y l ih=>
    have b:=eX n y;simp only[aN,bI,bF,bm];exact⟨by omega,by omega⟩
  have k:=key x.2.2;simp only[sz,ay,bi];by_cases a:x.1.1=4
  ·rw[if_pos a];exact⟨by omega,by omega⟩
  ·rw[if_neg a];exact⟨by omega,by omega⟩
def cE(x:Nd):Bool:=
 (if x.1.1=1 then x.1.2.2.toList.isEmpty && qK x.1.2.1 (-1099511627776) 1099511627776
  else if x.1.1=2 then dQ x.1.2.2 && x.1.2.1==0
  else if x.1.1=3 then x.1.2.2.toList.isEmpty && qK x.1.2.1 1 99
  else if x.1.1=4 then x.1.2.2.toList.isEmpty && x.1.2.1==0 && decide ((x.2.2.1:Int)<=8)
  else if x.1.1=5 then x.1.2.2.toList.isEmpty && qK x.1.2.1 0 3
  else if x.1.1=6 then x.1.2.2.toList.isEmpty && x.1.2.1==0
  else false) && (x.1.1==4 || !decide ((0:Int)<(x.2.2.1:Int)))
def ns(x:Nd)(d m:Int):Int:=if x.1.1=4/\m<d+1 then d+1 else m
def C0(a:Int):List Nd->List Int->Int->Int
 | x::l,d::ds,m=>if cE x then C0 a l ds (ns x d m)else 5
 | _,_,m=>if 12<m\/200<a then 2 else 0
def bz(n:Nat)(x:Tm n):Int:=C0 (sz n x) (ay n x) (pP n x 0) 0
theorem iU(l:List Nd)(k:Nat)(x:Nd)(b:l[k]?=some x)(j:Nat)(e:j<4):(cC l)[k*4+j]?=(vv x)[j]? :=by
 induction l generalizing k with
 | nil=>simp at b
 | cons a l ih=>
  have c:cC (a::l)=vv a++cC l:=rfl;have d:(vv a).length=4:=rfl;rw[c];cases k with
  | zero=>
   have:a=x:=by simpa using b
   subst this;rw[dr (by omega)];simp
  | succ k=>
   rw[ed (by omega),d,<-ih k (by simpa using b)];congr 1;omega
theorem fm(g j:Nat):(⟨g,0,none⟩:Addr).add j=⟨g,j,none⟩:=by unfold Addr.add;split<;>simp_all
theorem DO{w:World}{base g c L:Nat}{l:List Nd}(d:w.ownsRow base 31 4 (ae (some ⟨g,0,none⟩) L c) L (cC l))(k:Nat)(x:Nd)(b:l[k]?=some x):w.cell? ⟨g,k*4,none⟩=some (ab x.1.1)/\w.cell? ⟨g,k*4+1,none⟩=some (ab x.1.2.1)/\w.cell? ⟨g,k*4+2,none⟩=some (af x.1.2.2)/\w.cell? ⟨g,k*4+3,none⟩=some (ae x.2.1 x.2.2.1 x.2.2.2):=by
 have a:=d.cells (g:=g) rfl;refine⟨?_,?_,?_,?_⟩
 ·have:=a (k*4+0) (ab x.1.1) (by rw[iU l k x b 0 (by omega)];rfl);rw[fm]at this;exact this
 ·have:=a (k*4+1) (ab x.1.2.1) (by rw[iU l k x b 1 (by omega)];rfl);rw[fm]at this;exact this
 ·have:=a (k*4+2) (af x.1.2.2) (by rw[iU l k x b 2 (by omega)];rfl);rw[fm]at this;exact this
 ·have:=a (k*4+3) (ae x.2.1 x.2.2.1 x.2.2.2) (by rw[iU l k x b 3 (by omega)];rfl);rw[fm]at this;exact this
end Go.Proofs.YtmmahddlcldmiaaGreat
