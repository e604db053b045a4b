/- Proved here: plain facts and contracts. No condition but what each names. -/
import Derived.Test.YtmmahddlcldmiaaGreatDoorRows
import Derived.WalkKit
import Derived.WalkSpells
import Derived.WalkLawsBesides
import Derived.Deep.AppendLies
namespace Go.Proofs.YtmmahddlcldmiaaGreatDoor
open Go.RowKit
abbrev ah:= @Or.inl
abbrev ai:= @Or.inr
abbrev ak:= @Nat.le_refl
abbrev ap:= @Below.refl
abbrev av:= @bodyPost_ret
abbrev aw:= @Option.some.inj
abbrev az:= @Nat.le_trans
abbrev aF:= @Array.getElem?_eq_some_iff
abbrev aA:= @Bool.and_eq_true
abbrev aE:= @heap_alloc_new
abbrev aG:= @List.getElem?_eq_getElem
abbrev aH:= @List.mem_of_getElem?
abbrev aI:= @Nat.zero_le
abbrev aM:= @List.map_cons
abbrev aO:= @List.getElem?_eq_some_iff
abbrev aR:= @Nat.lt_of_lt_of_le
abbrev bf:= @List.length_cons
abbrev bk:= @List.length_append
abbrev bu:= @List.take_of_length_le
abbrev bz:= @List.flatMap_cons
abbrev bA:= @List.sum_cons
abbrev bB:= @Option.bind_eq_some_iff
abbrev bE:= @ByteArray.toList_eq
abbrev bF:= @List.eq_nil_of_length_eq_zero
abbrev bN:= @Array.getElem?_modify
abbrev bO:= @decide_eq_true_eq
abbrev bP:= @info_parts
abbrev bX:= @List.mem_cons_of_mem
abbrev bY:= @List.setIfInBounds_toArray
abbrev bZ:= @List.all_eq_true
abbrev b8:= @List.map_nil
abbrev ch:= @List.mem_cons
abbrev ci:= @Option.map_eq_some_iff
abbrev cm:= @beq_iff_eq
abbrev cr:= @run_underlying
abbrev cC:= @List.mem_map
abbrev cF:= @if_true
abbrev cM:= @List.getElem?_of_mem
abbrev cP:= @List.getElem?_cons_zero
abbrev cZ:= @List.getElem?_cons_succ
abbrev dc:= @Nat.zero_add
abbrev dd:= @World.grownBy_alloc
abbrev di:= @List.set_cons_succ
abbrev dj:= @List.set_cons_zero
abbrev dm:= @List.getElem?_append_left
abbrev dn:= @List.getElem?_map
abbrev dp:= @List.mem_append
abbrev dq:= @List.take_add_one
abbrev dy:= @List.length_take
abbrev dz:= @Nat.le_of_eq
abbrev dA:= @Option.bind_some
abbrev dY:= @List.append_nil
abbrev dZ:= @bodyPost_end
abbrev ez:= @Bool.true_and
abbrev eA:= @List.drop_eq_getElem_cons
abbrev eC:= @List.getElem?_append_right
abbrev eD:= @List.getElem?_eq_none
abbrev eE:= @List.length_map
abbrev eF:= @List.mem_singleton
abbrev eG:= @Prod.mk.injEq
abbrev eH:= @World.ownsRow_nil
abbrev eU:= @Addr.add_lit
abbrev eV:= @Below.heap_setCell
abbrev eW:= @Lib.cell_of_heap
abbrev eX:= @List.length_drop
abbrev eY:= @Nat.add_sub_cancel
abbrev fo:= @List.foldl_cons
abbrev fp:= @List.nodup_append
abbrev fq:= @List.size_toArray
abbrev ft:= @of_decide_eq_true
abbrev fO:= @List.cons_append
abbrev fP:= @List.map_append
abbrev fQ:= @Nat.le_succ
abbrev gn:= @Array.length_toList
abbrev gq:= @Bool.or_eq_true
abbrev gt:= @List.drop_eq_nil_of_le
abbrev gu:= @List.map_map
abbrev gw:= @List.not_mem_nil
abbrev gz:= @List.prefix_refl
abbrev gA:= @Option.isSome_iff_exists
abbrev gB:= @World.grownBy.refl
abbrev gC:= @or_false
abbrev io:= @Bool.and_self
abbrev ip:= @List.all_cons
abbrev iq:= @List.set_append_right
abbrev ir:= @List.take_append_drop
abbrev iu:= @Nat.add_zero
abbrev iv:= @Prod.ext
abbrev iw:= @WalkArith.wf_i64
abbrev iy:= @World.size_alloc
abbrev iz:= @beq_eq_false_iff_ne
abbrev jC:= @List.find?_cons
abbrev jD:= @List.foldl_append
abbrev jE:= @List.getElem_mem
abbrev jF:= @List.length_nil
abbrev jG:= @List.mem_flatMap
abbrev gR:= @List.sum_nil
abbrev gS:= @List.take_append_of_le_length
abbrev gT:= @Nat.le_add_right
abbrev gU:= @Nat.sub_self
abbrev gV:= @World.block_lt_of_cell?
abbrev gW:= @World.cell?_setCell_same
abbrev gX:= @decide_eq_true
abbrev iZ:= @Array.toList_inj
abbrev jc:= @ByteArray.ext
abbrev jd:= @DataW.trod_int
abbrev je:= @DataW.trod_struct
abbrev jf:= @Int.le_refl
abbrev jg:= @List.all_append
abbrev jh:= @List.getElem?_take
abbrev ji:= @List.map_congr_left
abbrev jj:= @World.frozen?_of_block
abbrev kG:= @List.flatMap_append
abbrev kH:= @List.getElem?_drop
abbrev kI:= @List.mem_map_of_mem
abbrev kJ:= @List.take_succ_eq_append_getElem
abbrev kK:= @MapKept.run_getObj_map
abbrev kL:= @Option.isNone_iff_eq_none
abbrev kM:= @Option.not_isSome
abbrev kN:= @Option.some.injEq
abbrev kO:= @wpList_make_full
abbrev mK:= @Array.getElem?_toList
abbrev mL:= @Go.WideMaps.keyOf_string_mk
abbrev mN:= @List.append_assoc
abbrev mO:= @List.getD_eq_getElem?_getD
abbrev mP:= @List.map_toArray
abbrev mQ:= @List.mem_cons_self
abbrev mR:= @List.nil_append
abbrev mS:= @List.nodup_cons
abbrev mT:= @List.replicate_zero
abbrev mU:= @List.sum_append
abbrev mV:= @Option.isSome_none
abbrev mW:= @Option.isSome_some
abbrev mX:= @Option.map_some
abbrev mY:= @Result.andThen_ok
abbrev pf:= @Bool.false_eq_true
abbrev ph:= @Bool.not_eq_true'
abbrev pi:= @DataW.trod_string
abbrev pj:= @List.drop_append_of_le_length
abbrev pn:= @List.drop_of_length_le
abbrev pq:= @List.find?_eq_none
abbrev pr:= @List.findIdx?_eq_none_iff
abbrev pt:= @List.prefix_append
abbrev pu:= @List.toList_toArray
abbrev pw:= @UInt8.lt_iff_toNat_lt
abbrev px:= @World.cells?_some
abbrev py:= @World.ownsMap_made
abbrev pA:= @World.ownsRow.kept
abbrev pB:= @run_storeCells_at
abbrev sQ:= @ChangeMaps.heap_setBlock_same
abbrev sR:= @List.eraseIdx_eq_take_drop_succ
abbrev sS:= @List.getElem?_take_of_lt
abbrev sT:= @List.mem_or_eq_of_mem_set
abbrev ab(x:Int):Value:=.int .i64 x
abbrev af(s:ByteArray):Value:=.string s
abbrev ae(a:Option Addr)(l c:Nat):Value:=.slice a l c
abbrev aB(b:Nat):Value:=.pointer (some ⟨b,0,none⟩)
abbrev aj(w w':World):Prop:=Below w.heap.size w w'
abbrev am:=Calls Tryz.prog
theorem jl{k:IntKind}{a b:Int}(c:a=b):Ending.returned (.int k a)=.returned (.int k b):=by rw[c]
theorem aq{p:Prop}(a:p):Hid p:=a
theorem cH{w w1:World}(a:Below w.drew.heap.size w.drew w1):aj w w1:=⟨a.os,a.tape,a.output,a.size,a.block⟩
theorem ar{B:Nat}{w w1:World}(a:Below B w w1):∀b o,b<B->w1.cell? ⟨b,o,none⟩=w.cell? ⟨b,o,none⟩:=λb o c=>a.cell (p:=⟨b,o,none⟩) c
def Tm:Nat->Type
 | 0=>Unit
 | n+1=>(Int×Int×ByteArray)×(Option Addr×Nat)×List (Tm n)
def df:(n:Nat)->Tm n->Value
 | 0,_=> .nilIface
 | _+1,x=> .agg #[ab x.1.1,ab x.1.2.1,af x.1.2.2,ae x.2.1.1 x.2.2.length x.2.1.2]
def dB(w:World)(b o:Nat):(n:Nat)->Tm n->Prop
 | 0,_=>False
 | _+1,x=>w.cell? ⟨b,o,none⟩=some (ab x.1.1)/\w.cell? ⟨b,o+1,none⟩=some (ab x.1.2.1)/\
    w.cell? ⟨b,o+2,none⟩=some (af x.1.2.2)/\w.cell? ⟨b,o+3,none⟩=some (ae x.2.1.1 x.2.2.length x.2.1.2)
def dt(k:Int):Prop:=-9223372036854775808<=k/\k<=9223372036854775807
def In(B:Nat)(w:World):(n:Nat)->Tm n->Prop
 | 0,_=>False
 | n+1,x=>(dt x.1.1/\dt x.1.2.1/\x.1.2.2.size<=maxLen/\x.2.2.length<=x.2.1.2/\x.2.1.2<=maxLen)/\
    (x.2.2=[]\/∃b o,x.2.1.1=some ⟨b,o,none⟩/\b<B/\∀(i:Nat)(y:Tm n),x.2.2[i]?=some y->dB w b (o+i*4) n y/\In B w n y)
theorem dB.below{B:Nat}{w w':World}(a:Below B w w'){b o:Nat}(c:b<B):{n:Nat}->{x:Tm n}->dB w b o n x->dB w' b o n x
 | 0,_,k=>k
 | _+1,_,k=>by
  obtain⟨d,e,f,g⟩:=k;exact⟨(a.cell (p:=⟨b,o,none⟩) c).trans d,(a.cell (p:=⟨b,o+1,none⟩) c).trans e,(a.cell (p:=⟨b,o+2,none⟩) c).trans f,(a.cell (p:=⟨b,o+3,none⟩) c).trans g⟩
theorem In.below{B:Nat}{w w':World}(c:Below B w w'):{n:Nat}->{x:Tm n}->In B w n x->In B w' n x
 | 0,_,k=>k
 | _+1,_,k=>by
  obtain⟨g,a⟩:=k;refine⟨g,?_⟩;rcases a with a|⟨b,o,e,d,a⟩
  ·exact ah a
  ·exact ai ⟨b,o,e,d,λi y f=>⟨(a i y f).1.below c d,(a i y f).2.below c⟩⟩
theorem In.mono{B C:Nat}(d:B<=C){w:World}:{n:Nat}->{x:Tm n}->In B w n x->In C w n x
 | 0,_,k=>k
 | _+1,_,k=>by
  obtain⟨f,a⟩:=k;refine⟨f,?_⟩;rcases a with a|⟨b,o,e,g,a⟩
  ·exact ah a
  ·exact ai ⟨b,o,e,by omega,λi y c=>⟨(a i y c).1,(a i y c).2.mono d⟩⟩
def nU(x y:Int):Int:=if x<y then -1 else if y<x then 1 else 0
def wG(x y:ByteArray):Int:=if Op.bytesLess x.toList y.toList then -1 else if !Op.bytesLess x.toList y.toList && !(x.toList==y.toList)then 1 else 0
def pG{c d:Type}(f:c->d->Int):List c->List d->Int
 | a::p,b::q=>if f a b=0 then pG f p q else f a b
 | _,_=>0
def xO:(n:Nat)->Tm n->(m:Nat)->Tm m->Int
 | n+1,x,m+1,y=>
  if x.1.1=y.1.1 then
   if x.1.1=1\/x.1.1=3\/x.1.1=5 then nU x.1.2.1 y.1.2.1
   else if x.1.1=2 then wG x.1.2.2 y.1.2.2
   else if x.1.1=4 then
    if x.2.2.length=y.2.2.length then pG (λa b=>xO n a m b) x.2.2 y.2.2 else nU x.2.2.length y.2.2.length
   else 0
  else nU x.1.1 y.1.1
 | _,_,_,_=>0
theorem Hf{c d:Type}(f:c->d->Int)(p:List c)(q:List d)(k:Nat)(a:c)(b:d)(j:p[k]?=some a)(l:q[k]?=some b):pG f (p.drop k) (q.drop k)=if f a b=0 then pG f (p.drop (k+1)) (q.drop (k+1))else f a b:=by
 obtain⟨h,e⟩:=aO.1 j;obtain⟨i,g⟩:=aO.1 l;rw[eA h,eA i,e,g];rfl
abbrev Nd:Type:=(Int×Int×ByteArray)×(Option Addr×Nat×Nat)
def vC(x:Nd):List Value:=[ab x.1.1,ab x.1.2.1,af x.1.2.2,ae x.2.1 x.2.2.1 x.2.2.2]
def cv(l:List Nd):List Value:=l.flatMap vC
def ax:(n:Nat)->Tm n->List Nd
 | 0,_=> [((0,0,.empty),(none,0,0))]
 | n+1,x=>(x.1,(x.2.1.1,x.2.2.length,x.2.1.2))::x.2.2.flatMap λy=>ax n y
def pN:(n:Nat)->Tm n->Int->List Int
 | 0,_,d=> [d]
 | n+1,x,d=>d::x.2.2.flatMap λy=>pN n y (d+1)
theorem Ba{b d e:Type}(f:b->List d)(g:b->List e)(c:∀a,(f a).length=(g a).length)(l:List b):(l.flatMap f).length=(l.flatMap g).length:=by
 induction l with
 | nil=>rfl
 | cons a l ih=>simp only[bz,bk,ih,c]
theorem j0:(n:Nat)->(x:Tm n)->(d:Int)->(pN n x d).length=(ax n x).length
 | 0,_,_=>rfl
 | n+1,x,d=>by
  simp only[pN,ax,bf];rw[Ba (λy=>pN n y (d+1)) (λy=>ax n y) (λy=>j0 n y (d+1))]
theorem oo(l:List Nd):(cv l).length=l.length*4:=by
 induction l with
 | nil=>rfl
 | cons a l ih=>simp only[cv,bz,bk,bf]at ih ⊢;rw[ih];simp[vC];omega
theorem vD(l r:List Nd):cv (l++r)=cv l++cv r:=by simp[cv]
theorem tf(l:List Nd):∀b∈cv l,b.oneCell'=true:=by
 intro b a;simp only[cv,jG,vC]at a;obtain⟨c,_,a⟩:=a;simp at a;rcases a with rfl|rfl|rfl|rfl<;>rfl
theorem Im{a e:Type}(f:a->List e)(l:List a)(k:Nat)(x:a)(c:l[k]?=some x):(l.take (k+1)).flatMap f=(l.take k).flatMap f++f x:=by
 obtain⟨d,b⟩:=aO.1 c;rw[kJ d,b];simp
theorem FI{a b:Type}(f:a->List b)(l:List a)(k:Nat):((l.take k).flatMap f).length<=(l.flatMap f).length:=by
 conv=>rhs;rw[<-ir k l]
 rw[kG,bk];omega
theorem dS{w w':World}{base e size:Nat}{v:Value}{n:Nat}{xs:List Value}(b:w.ownsRow base e size v n xs)(a:aj w w'):w'.ownsRow base e size v n xs:=
 b.kept (row:=none) ⟨a.os,a.tape,a.output,a.size,λk c _=>a.block k c⟩ (by cases v.ownBlock<;>simp)
theorem rF{w:World}{base b e size:Nat}{v:Value}{n:Nat}{xs:List Value}(f:w.ownsRow base e size v n xs)(k:b<=base):w.ownsRow b e size v n xs:=by
 obtain⟨g,a⟩:=f;refine⟨g,?_⟩;rcases a with a|⟨d,cap,c,i,l,h,j⟩
 ·exact ah a
 ·exact ai ⟨d,cap,c,i,by omega,h,j⟩
theorem gh:(Tryz.prog.info? 28).map (λi=>(i.zero,i.size,i.bytes))=some (some (.agg #[ab 0,ab 0,af .empty,ae none 0 0]),4,56):=by kernel_rfl
theorem Fl:(Tryz.prog.info? 3).map (λi=>(i.zero,i.size,i.bytes))=some (some (ab 0),1,8):=by kernel_rfl
def oe(n lo a:Int):Bool:=decide (lo<=n) && decide (n<=a)
def ol(c:UInt8):Bool:=decide (97<=(c.toNat:Int)) && decide ((c.toNat:Int)<=122)
def fJ(l:List UInt8):Bool:=l.all ol
def dF(s:ByteArray):Bool:=oe s.size 1 8 && fJ s.data.toList
theorem bS{a b:Bool}(c:a=b):Ending.returned (.bool a)=.returned (.bool b):=by rw[c]
theorem sM(s:ByteArray)(k:Nat)(a:k<s.size):s.data.toList.take (k+1)=s.data.toList.take k++ [s[k]]:=by
 rw[kJ (by simpa using a)];rfl
theorem vw(s:ByteArray)(k:Nat)(a:k<s.size):fJ (s.data.toList.take (k+1))=(fJ (s.data.toList.take k) && ol s[k]):=by
 rw[sM s k a];simp[fJ]
def sz:(n:Nat)->Tm n->Int
 | 0,_=>0
 | n+1,x=>if x.1.1=4 then 1+(x.2.2.map λy=>1+sz n y).sum else 0
theorem eT:(n:Nat)->(x:Tm n)->0<=sz n x/\sz n x+1<=2*((ax n x).length:Int)
 | 0,_=>⟨by simp[sz],by simp[sz,ax]⟩
 | n+1,x=>by
  have key:∀l:List (Tm n),0<=(l.map λy=>1+sz n y).sum/\(l.map λy=>1+sz n y).sum<=2*((l.flatMap λy=>ax n y).length:Int):=by
   intro l
   induction l with
   | nil=>exact⟨by simp,by simp⟩
   | cons y l ih=>
    have b:=eT n y;simp only[aM,bA,bz,bk];exact⟨by omega,by omega⟩
  have k:=key x.2.2;simp only[sz,ax,bf];by_cases a:x.1.1=4
  ·rw[if_pos a];exact⟨by omega,by omega⟩
  ·rw[if_neg a];exact⟨by omega,by omega⟩
def cg(x:Nd):Bool:=
 (if x.1.1=1 then x.1.2.2.toList.isEmpty && oe x.1.2.1 (-1099511627776) 1099511627776
  else if x.1.1=2 then dF x.1.2.2 && x.1.2.1==0
  else if x.1.1=3 then x.1.2.2.toList.isEmpty && oe x.1.2.1 1 99
  else if x.1.1=4 then x.1.2.2.toList.isEmpty && x.1.2.1==0 && decide ((x.2.2.1:Int)<=8)
  else if x.1.1=5 then x.1.2.2.toList.isEmpty && oe x.1.2.1 0 3
  else if x.1.1=6 then x.1.2.2.toList.isEmpty && x.1.2.1==0
  else false) && (x.1.1==4 || !decide ((0:Int)<(x.2.2.1:Int)))
def nj(x:Nd)(d m:Int):Int:=if x.1.1=4/\m<d+1 then d+1 else m
def C6(a:Int):List Nd->List Int->Int->Int
 | x::l,d::ds,m=>if cg x then C6 a l ds (nj x d m)else 5
 | _,_,m=>if 12<m\/200<a then 2 else 0
def bv(n:Nat)(x:Tm n):Int:=C6 (sz n x) (ax n x) (pN n x 0) 0
theorem iP(l:List Nd)(k:Nat)(x:Nd)(b:l[k]?=some x)(j:Nat)(e:j<4):(cv l)[k*4+j]?=(vC x)[j]? :=by
 induction l generalizing k with
 | nil=>simp at b
 | cons a l ih=>
  have c:cv (a::l)=vC a++cv l:=rfl;have d:(vC a).length=4:=rfl;rw[c];cases k with
  | zero=>
   have:a=x:=by simpa using b
   subst this;rw[dm (by omega)];simp
  | succ k=>
   rw[eC (by omega),d,<-ih k (by simpa using b)];congr 1;omega
theorem fj(g j:Nat):(⟨g,0,none⟩:Addr).add j=⟨g,j,none⟩:=by unfold Addr.add;split<;>simp_all
theorem DS{w:World}{base g c L:Nat}{l:List Nd}(d:w.ownsRow base 28 4 (ae (some ⟨g,0,none⟩) L c) L (cv l))(k:Nat)(x:Nd)(b:l[k]?=some x):w.cell? ⟨g,k*4,none⟩=some (ab x.1.1)/\w.cell? ⟨g,k*4+1,none⟩=some (ab x.1.2.1)/\w.cell? ⟨g,k*4+2,none⟩=some (af x.1.2.2)/\w.cell? ⟨g,k*4+3,none⟩=some (ae x.2.1 x.2.2.1 x.2.2.2):=by
 have a:=d.cells (g:=g) rfl;refine⟨?_,?_,?_,?_⟩
 ·have:=a (k*4+0) (ab x.1.1) (by rw[iP l k x b 0 (by omega)];rfl);rw[fj]at this;exact this
 ·have:=a (k*4+1) (ab x.1.2.1) (by rw[iP l k x b 1 (by omega)];rfl);rw[fj]at this;exact this
 ·have:=a (k*4+2) (af x.1.2.2) (by rw[iP l k x b 2 (by omega)];rfl);rw[fj]at this;exact this
 ·have:=a (k*4+3) (ae x.2.1 x.2.2.1 x.2.2.2) (by rw[iP l k x b 3 (by omega)];rfl);rw[fj]at this;exact this
end Go.Proofs.YtmmahddlcldmiaaGreatDoor
