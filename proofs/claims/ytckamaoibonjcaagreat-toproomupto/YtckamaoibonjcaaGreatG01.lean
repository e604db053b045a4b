/- What is proved here: plain facts and contracts that the claimed theorem stands on. No condition but those that each names. -/
import Derived.Test.YtckamaoibonjcaaGreatRows
import Derived.WalkKit
import Derived.WalkSpells
import Derived.WalkLawsBesides
import Derived.Deep.AppendLies
namespace Go.Proofs.YtckamaoibonjcaaGreat
open Go.RowKit
abbrev ah:= @Or.inl
abbrev ai:= @Or.inr
abbrev ak:= @Nat.le_refl
abbrev ap:= @Below.refl
abbrev au:= @Option.some.inj
abbrev av:= @bodyPost_ret
abbrev ay:= @Nat.le_trans
abbrev aD:= @Array.getElem?_eq_some_iff
abbrev aA:= @Bool.and_eq_true
abbrev aB:= @heap_alloc_new
abbrev aE:= @Nat.zero_le
abbrev aG:= @List.mem_of_getElem?
abbrev aH:= @List.getElem?_eq_getElem
abbrev aK:= @List.map_cons
abbrev aN:= @Nat.lt_of_lt_of_le
abbrev aR:= @List.getElem?_eq_some_iff
abbrev aZ:= @List.length_cons
abbrev bj:= @List.length_append
abbrev br:= @Option.bind_eq_some_iff
abbrev bv:= @List.sum_cons
abbrev bB:= @List.flatMap_cons
abbrev bC:= @List.take_of_length_le
abbrev bG:= @Array.getElem?_modify
abbrev bH:= @List.eq_nil_of_length_eq_zero
abbrev bI:= @List.mem_cons_of_mem
abbrev bS:= @info_parts
abbrev bT:= @List.setIfInBounds_toArray
abbrev bU:= @decide_eq_true_eq
abbrev bX:= @List.map_nil
abbrev b8:= @ByteArray.toList_eq
abbrev b9:= @List.all_eq_true
abbrev cd:= @Option.map_eq_some_iff
abbrev ch:= @List.mem_cons
abbrev ci:= @List.mem_map
abbrev cm:= @beq_iff_eq
abbrev co:= @run_underlying
abbrev cI:= @if_true
abbrev cN:= @List.getElem?_cons_zero
abbrev cO:= @List.getElem?_of_mem
abbrev cR:= @List.mem_append
abbrev cT:= @Nat.zero_add
abbrev cY:= @List.getElem?_cons_succ
abbrev cZ:= @World.grownBy_alloc
abbrev de:= @List.mem_singleton
abbrev df:= @List.set_cons_succ
abbrev dg:= @List.set_cons_zero
abbrev dh:= @Option.bind_some
abbrev dk:= @List.getElem?_append_left
abbrev dr:= @List.getElem?_map
abbrev dt:= @Nat.le_of_eq
abbrev dy:= @List.length_take
abbrev dz:= @List.take_add_one
abbrev dR:= @bodyPost_end
abbrev eg:= @Bool.true_and
abbrev eh:= @List.append_nil
abbrev ei:= @List.getElem?_append_right
abbrev ek:= @List.getElem?_eq_none
abbrev en:= @World.ownsRow_nil
abbrev eF:= @Addr.add_lit
abbrev eG:= @Below.heap_setCell
abbrev eH:= @List.length_drop
abbrev eI:= @List.nodup_append
abbrev eJ:= @Nat.add_sub_cancel
abbrev eV:= @List.drop_eq_getElem_cons
abbrev eW:= @List.size_toArray
abbrev fG:= @List.cons_append
abbrev fH:= @List.foldl_cons
abbrev fI:= @List.length_map
abbrev fJ:= @List.map_append
abbrev fK:= @List.map_map
abbrev fL:= @Nat.le_succ
abbrev fM:= @Prod.mk.injEq
abbrev fN:= @of_decide_eq_true
abbrev gh:= @List.not_mem_nil
abbrev gi:= @List.prefix_refl
abbrev gj:= @Option.isSome_iff_exists
abbrev gm:= @World.grownBy.refl
abbrev gn:= @beq_eq_false_iff_ne
abbrev gq:= @or_false
abbrev ia:= @Array.length_toList
abbrev ib:= @Bool.and_self
abbrev ic:= @Bool.or_eq_true
abbrev ie:= @List.set_append_right
abbrev ig:= @Prod.ext
abbrev ii:= @WalkArith.wf_i64
abbrev jj:= @List.drop_eq_nil_of_le
abbrev jk:= @List.find?_cons
abbrev jl:= @List.getElem_mem
abbrev jm:= @List.map_congr_left
abbrev jn:= @List.mem_flatMap
abbrev jo:= @List.sum_nil
abbrev jp:= @List.take_append_drop
abbrev jq:= @List.take_append_of_le_length
abbrev jr:= @Nat.le_add_right
abbrev js:= @Nat.sub_self
abbrev jt:= @World.block_lt_of_cell?
abbrev gL:= @World.cell?_setCell_same
abbrev gM:= @World.size_alloc
abbrev gN:= @decide_eq_true
abbrev iL:= @DataW.trod_int
abbrev iM:= @DataW.trod_struct
abbrev iN:= @Int.le_refl
abbrev iO:= @List.all_cons
abbrev iP:= @List.length_nil
abbrev iQ:= @List.mem_map_of_mem
abbrev iR:= @Nat.add_zero
abbrev iS:= @World.frozen?_of_block
abbrev kh:= @List.all_append
abbrev kj:= @List.flatMap_append
abbrev km:= @List.getElem?_drop
abbrev ko:= @List.getElem?_take
abbrev kp:= @List.nodup_cons
abbrev kt:= @MapKept.run_getObj_map
abbrev ku:= @Option.isNone_iff_eq_none
abbrev kv:= @Option.not_isSome
abbrev kw:= @Option.some.injEq
abbrev ky:= @wpList_make_full
abbrev mg:= @Array.getElem?_toList
abbrev mh:= @Array.toList_inj
abbrev mi:= @Go.WideMaps.keyOf_string_mk
abbrev mj:= @List.append_assoc
abbrev mm:= @List.foldl_append
abbrev mn:= @List.getD_eq_getElem?_getD
abbrev mq:= @List.map_toArray
abbrev mr:= @List.mem_append_left
abbrev mu:= @List.nil_append
abbrev mw:= @List.replicate_zero
abbrev mx:= @Option.isSome_none
abbrev mA:= @Option.isSome_some
abbrev mB:= @Result.andThen_ok
abbrev oE:= @Bool.false_eq_true
abbrev oF:= @Bool.not_eq_true'
abbrev oG:= @DataW.trod_string
abbrev oH:= @List.drop_append_of_le_length
abbrev oI:= @List.drop_of_length_le
abbrev oJ:= @List.find?_eq_none
abbrev oK:= @List.findIdx?_eq_none_iff
abbrev oL:= @List.mem_cons_self
abbrev oM:= @List.prefix_append
abbrev oN:= @List.take_succ_eq_append_getElem
abbrev oO:= @List.toList_toArray
abbrev oP:= @UInt8.lt_iff_toNat_lt
abbrev oQ:= @World.cells?_some
abbrev oR:= @World.ownsMap_made
abbrev oS:= @World.ownsRow.kept
abbrev oT:= @run_storeCells_at
abbrev r7:= @ChangeMaps.heap_setBlock_same
abbrev r8:= @List.eraseIdx_eq_take_drop_succ
abbrev r9:= @List.getElem?_take_of_lt
abbrev sf:= @List.mem_of_find?_eq_some
abbrev sg:= @List.mem_or_eq_of_mem_set
abbrev ab(x:Int):Value:=.int .i64 x
abbrev af(s:ByteArray):Value:=.string s
abbrev ae(a:Option Addr)(l c:Nat):Value:=.slice a l c
abbrev aF(b:Nat):Value:=.pointer (some ⟨b,0,none⟩)
abbrev aj(w w':World):Prop:=Below w.heap.size w w'
abbrev am:=Calls Tryz.prog
theorem iU{k:IntKind}{a b:Int}(c:a=b):Ending.returned (.int k a)=.returned (.int k b):=by rw[c]
theorem ao{p:Prop}(a:p):Hid p:=a
theorem cF{w w1:World}(a:Below w.drew.heap.size w.drew w1):aj w w1:=⟨a.os,a.tape,a.output,a.size,a.block⟩
theorem aq{B:Nat}{w w1:World}(a:Below B w w1):∀b o,b<B->w1.cell? ⟨b,o,none⟩=w.cell? ⟨b,o,none⟩:=λb o c=>a.cell (p:=⟨b,o,none⟩) c
def Tm:Nat->Type
 | 0=>Unit
 | n+1=>(Int×Int×ByteArray)×(Option Addr×Nat)×List (Tm n)
def dj:(n:Nat)->Tm n->Value
 | 0,_=> .nilIface
 | _+1,x=> .agg #[ab x.1.1,ab x.1.2.1,af x.1.2.2,ae x.2.1.1 x.2.2.length x.2.1.2]
def dE(w:World)(b o:Nat):(n:Nat)->Tm n->Prop
 | 0,_=>False
 | _+1,x=>w.cell? ⟨b,o,none⟩=some (ab x.1.1)/\w.cell? ⟨b,o+1,none⟩=some (ab x.1.2.1)/\
    w.cell? ⟨b,o+2,none⟩=some (af x.1.2.2)/\w.cell? ⟨b,o+3,none⟩=some (ae x.2.1.1 x.2.2.length x.2.1.2)
def dn(k:Int):Prop:=-9223372036854775808<=k/\k<=9223372036854775807
def In(B:Nat)(w:World):(n:Nat)->Tm n->Prop
 | 0,_=>False
 | n+1,x=>(dn x.1.1/\dn x.1.2.1/\x.1.2.2.size<=maxLen/\x.2.2.length<=x.2.1.2/\x.2.1.2<=maxLen)/\
    (x.2.2=[]\/∃b o,x.2.1.1=some ⟨b,o,none⟩/\b<B/\∀(i:Nat)(y:Tm n),x.2.2[i]?=some y->dE w b (o+i*4) n y/\In B w n y)
theorem dE.below{B:Nat}{w w':World}(a:Below B w w'){b o:Nat}(c:b<B):{n:Nat}->{x:Tm n}->dE w b o n x->dE w' b o n x
 | 0,_,k=>k
 | _+1,_,k=>by
  obtain⟨d,e,f,g⟩:=k;exact⟨(a.cell (p:=⟨b,o,none⟩) c).trans d,(a.cell (p:=⟨b,o+1,none⟩) c).trans e,(a.cell (p:=⟨b,o+2,none⟩) c).trans f,(a.cell (p:=⟨b,o+3,none⟩) c).trans g⟩
theorem In.below{B:Nat}{w w':World}(c:Below B w w'):{n:Nat}->{x:Tm n}->In B w n x->In B w' n x
 | 0,_,k=>k
 | _+1,_,k=>by
  obtain⟨g,a⟩:=k;refine⟨g,?_⟩;rcases a with a|⟨b,o,e,d,a⟩
  ·exact ah a
  ·exact ai ⟨b,o,e,d,λi y f=>⟨(a i y f).1.below c d,(a i y f).2.below c⟩⟩
theorem In.mono{B C:Nat}(d:B<=C){w:World}:{n:Nat}->{x:Tm n}->In B w n x->In C w n x
 | 0,_,k=>k
 | _+1,_,k=>by
  obtain⟨f,a⟩:=k;refine⟨f,?_⟩;rcases a with a|⟨b,o,e,g,a⟩
  ·exact ah a
  ·exact ai ⟨b,o,e,by omega,λi y c=>⟨(a i y c).1,(a i y c).2.mono d⟩⟩
def nA(x y:Int):Int:=if x<y then -1 else if y<x then 1 else 0
def vw(x y:ByteArray):Int:=if Op.bytesLess x.toList y.toList then -1 else if !Op.bytesLess x.toList y.toList && !(x.toList==y.toList)then 1 else 0
def oY{c d:Type}(f:c->d->Int):List c->List d->Int
 | a::p,b::q=>if f a b=0 then oY f p q else f a b
 | _,_=>0
def wG:(n:Nat)->Tm n->(m:Nat)->Tm m->Int
 | n+1,x,m+1,y=>
  if x.1.1=y.1.1 then
   if x.1.1=1\/x.1.1=3\/x.1.1=5 then nA x.1.2.1 y.1.2.1
   else if x.1.1=2 then vw x.1.2.2 y.1.2.2
   else if x.1.1=4 then
    if x.2.2.length=y.2.2.length then oY (λa b=>wG n a m b) x.2.2 y.2.2 else nA x.2.2.length y.2.2.length
   else 0
  else nA x.1.1 y.1.1
 | _,_,_,_=>0
theorem FY{c d:Type}(f:c->d->Int)(p:List c)(q:List d)(k:Nat)(a:c)(b:d)(j:p[k]?=some a)(l:q[k]?=some b):oY f (p.drop k) (q.drop k)=if f a b=0 then oY f (p.drop (k+1)) (q.drop (k+1))else f a b:=by
 obtain⟨h,e⟩:=aR.1 j;obtain⟨i,g⟩:=aR.1 l;rw[eV h,eV i,e,g];rfl
abbrev Nd:Type:=(Int×Int×ByteArray)×(Option Addr×Nat×Nat)
def uF(x:Nd):List Value:=[ab x.1.1,ab x.1.2.1,af x.1.2.2,ae x.2.1 x.2.2.1 x.2.2.2]
def cr(l:List Nd):List Value:=l.flatMap uF
def aw:(n:Nat)->Tm n->List Nd
 | 0,_=> [((0,0,.empty),(none,0,0))]
 | n+1,x=>(x.1,(x.2.1.1,x.2.2.length,x.2.1.2))::x.2.2.flatMap λy=>aw n y
def pd:(n:Nat)->Tm n->Int->List Int
 | 0,_,d=> [d]
 | n+1,x,d=>d::x.2.2.flatMap λy=>pd n y (d+1)
theorem Af{b d e:Type}(f:b->List d)(g:b->List e)(c:∀a,(f a).length=(g a).length)(l:List b):(l.flatMap f).length=(l.flatMap g).length:=by
 induction l with
 | nil=>rfl
 | cons a l ih=>simp only[bB,bj,ih,c]
theorem jN:(n:Nat)->(x:Tm n)->(d:Int)->(pd n x d).length=(aw n x).length
 | 0,_,_=>rfl
 | n+1,x,d=>by
  simp only[pd,aw,aZ];rw[Af (λy=>pd n y (d+1)) (λy=>aw n y) (λy=>jN n y (d+1))]
theorem nH(l:List Nd):(cr l).length=l.length*4:=by
 induction l with
 | nil=>rfl
 | cons a l ih=>simp only[cr,bB,bj,aZ]at ih ⊢;rw[ih];simp[uF];omega
theorem uG(l r:List Nd):cr (l++r)=cr l++cr r:=by simp[cr]
theorem sB(l:List Nd):∀b∈cr l,b.oneCell'=true:=by
 intro b a;simp only[cr,jn,uF]at a;obtain⟨c,_,a⟩:=a;simp at a;rcases a with rfl|rfl|rfl|rfl<;>rfl
theorem Gw{a e:Type}(f:a->List e)(l:List a)(k:Nat)(x:a)(c:l[k]?=some x):(l.take (k+1)).flatMap f=(l.take k).flatMap f++f x:=by
 obtain⟨d,b⟩:=aR.1 c;rw[oN d,b];simp
theorem EE{a b:Type}(f:a->List b)(l:List a)(k:Nat):((l.take k).flatMap f).length<=(l.flatMap f).length:=by
 conv=>rhs;rw[<-jp k l]
 rw[kj,bj];omega
theorem dJ{w w':World}{base e size:Nat}{v:Value}{n:Nat}{xs:List Value}(b:w.ownsRow base e size v n xs)(a:aj w w'):w'.ownsRow base e size v n xs:=
 b.kept (row:=none) ⟨a.os,a.tape,a.output,a.size,λk c _=>a.block k c⟩ (by cases v.ownBlock<;>simp)
theorem qO{w:World}{base b e size:Nat}{v:Value}{n:Nat}{xs:List Value}(f:w.ownsRow base e size v n xs)(k:b<=base):w.ownsRow b e size v n xs:=by
 obtain⟨g,a⟩:=f;refine⟨g,?_⟩;rcases a with a|⟨d,cap,c,i,l,h,j⟩
 ·exact ah a
 ·exact ai ⟨d,cap,c,i,by omega,h,j⟩
theorem ge:(Tryz.prog.info? 30).map (λi=>(i.zero,i.size,i.bytes))=some (some (.agg #[ab 0,ab 0,af .empty,ae none 0 0]),4,56):=by kernel_rfl
theorem Eh:(Tryz.prog.info? 3).map (λi=>(i.zero,i.size,i.bytes))=some (some (ab 0),1,8):=by kernel_rfl
def qd(n lo a:Int):Bool:=decide (lo<=n) && decide (n<=a)
def yk(c:UInt8):Bool:=decide (97<=(c.toNat:Int)) && decide ((c.toNat:Int)<=122)
def fV(l:List UInt8):Bool:=l.all yk
def dG(s:ByteArray):Bool:=qd s.size 1 8 && fV s.data.toList
theorem bL{a b:Bool}(c:a=b):Ending.returned (.bool a)=.returned (.bool b):=by rw[c]
theorem rX(s:ByteArray)(k:Nat)(a:k<s.size):s.data.toList.take (k+1)=s.data.toList.take k++ [s[k]]:=by
 rw[oN (by simpa using a)];rfl
theorem uy(s:ByteArray)(k:Nat)(a:k<s.size):fV (s.data.toList.take (k+1))=(fV (s.data.toList.take k) && yk s[k]):=by
 rw[rX s k a];simp[fV]
def sz:(n:Nat)->Tm n->Int
 | 0,_=>0
 | n+1,x=>if x.1.1=4 then 1+(x.2.2.map λy=>1+sz n y).sum else 0
theorem eE:(n:Nat)->(x:Tm n)->0<=sz n x/\sz n x+1<=2*((aw n x).length:Int)
 | 0,_=>⟨by simp[sz],by simp[sz,aw]⟩
 | n+1,x=>by
  have key:∀l:List (Tm n),0<=(l.map λy=>1+sz n y).sum/\(l.map λy=>1+sz n y).sum<=2*((l.flatMap λy=>aw n y).length:Int):=by
   intro l
   induction l with
   | nil=>exact⟨by simp,by simp⟩
   | cons y l ih=>
    have b:=eE n y;simp only[aK,bv,bB,bj];exact⟨by omega,by omega⟩
  have k:=key x.2.2;simp only[sz,aw,aZ];by_cases a:x.1.1=4
  ·rw[if_pos a];exact⟨by omega,by omega⟩
  ·rw[if_neg a];exact⟨by omega,by omega⟩
def cv(x:Nd):Bool:=
 (if x.1.1=1 then x.1.2.2.toList.isEmpty && qd x.1.2.1 (-1099511627776) 1099511627776
  else if x.1.1=2 then dG x.1.2.2 && x.1.2.1==0
  else if x.1.1=3 then x.1.2.2.toList.isEmpty && qd x.1.2.1 1 99
  else if x.1.1=4 then x.1.2.2.toList.isEmpty && x.1.2.1==0 && decide ((x.2.2.1:Int)<=8)
  else if x.1.1=5 then x.1.2.2.toList.isEmpty && qd x.1.2.1 0 3
  else if x.1.1=6 then x.1.2.2.toList.isEmpty && x.1.2.1==0
  else false) && (x.1.1==4 || !decide ((0:Int)<(x.2.2.1:Int)))
def mH(x:Nd)(d m:Int):Int:=if x.1.1=4/\m<d+1 then d+1 else m
def Cc(a:Int):List Nd->List Int->Int->Int
 | x::l,d::ds,m=>if cv x then Cc a l ds (mH x d m)else 5
 | _,_,m=>if 12<m\/200<a then 2 else 0
def bu(n:Nat)(x:Tm n):Int:=Cc (sz n x) (aw n x) (pd n x 0) 0
theorem iC(l:List Nd)(k:Nat)(x:Nd)(b:l[k]?=some x)(j:Nat)(e:j<4):(cr l)[k*4+j]?=(uF x)[j]? :=by
 induction l generalizing k with
 | nil=>simp at b
 | cons a l ih=>
  have c:cr (a::l)=uF a++cr l:=rfl;have d:(uF a).length=4:=rfl;rw[c];cases k with
  | zero=>
   have:a=x:=by simpa using b
   subst this;rw[dk (by omega)];simp
  | succ k=>
   rw[ei (by omega),d,<-ih k (by simpa using b)];congr 1;omega
theorem eS(g j:Nat):(⟨g,0,none⟩:Addr).add j=⟨g,j,none⟩:=by unfold Addr.add;split<;>simp_all
theorem CX{w:World}{base g c L:Nat}{l:List Nd}(d:w.ownsRow base 30 4 (ae (some ⟨g,0,none⟩) L c) L (cr l))(k:Nat)(x:Nd)(b:l[k]?=some x):w.cell? ⟨g,k*4,none⟩=some (ab x.1.1)/\w.cell? ⟨g,k*4+1,none⟩=some (ab x.1.2.1)/\w.cell? ⟨g,k*4+2,none⟩=some (af x.1.2.2)/\w.cell? ⟨g,k*4+3,none⟩=some (ae x.2.1 x.2.2.1 x.2.2.2):=by
 have a:=d.cells (g:=g) rfl;refine⟨?_,?_,?_,?_⟩
 ·have:=a (k*4+0) (ab x.1.1) (by rw[iC l k x b 0 (by omega)];rfl);rw[eS]at this;exact this
 ·have:=a (k*4+1) (ab x.1.2.1) (by rw[iC l k x b 1 (by omega)];rfl);rw[eS]at this;exact this
 ·have:=a (k*4+2) (af x.1.2.2) (by rw[iC l k x b 2 (by omega)];rfl);rw[eS]at this;exact this
 ·have:=a (k*4+3) (ae x.2.1 x.2.2.1 x.2.2.2) (by rw[iC l k x b 3 (by omega)];rfl);rw[eS]at this;exact this
end Go.Proofs.YtckamaoibonjcaaGreat
