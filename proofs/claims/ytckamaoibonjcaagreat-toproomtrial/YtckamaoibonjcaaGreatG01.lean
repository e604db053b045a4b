/- What is proved here: plain facts and contracts that the claimed theorem stands on. No condition but those that each names. -/
import Derived.Test.YtckamaoibonjcaaGreatRows
import Derived.WalkKit
import Derived.WalkSpells
import Derived.WalkLawsBesides
import Derived.Deep.AppendLies
namespace Go.Proofs.YtckamaoibonjcaaGreat
open Go.RowKit
abbrev ae:= @Or.inl
abbrev af:= @Or.inr
abbrev ai:= @Nat.le_refl
abbrev ak:= @Below.refl
abbrev ap:= @Option.some.inj
abbrev aq:= @bodyPost_ret
abbrev av:= @Nat.le_trans
abbrev aA:= @Array.getElem?_eq_some_iff
abbrev ax:= @Bool.and_eq_true
abbrev ay:= @heap_alloc_new
abbrev aB:= @Nat.zero_le
abbrev aC:= @List.mem_of_getElem?
abbrev aD:= @List.getElem?_eq_getElem
abbrev aG:= @List.map_cons
abbrev aJ:= @Nat.lt_of_lt_of_le
abbrev aL:= @List.getElem?_eq_some_iff
abbrev aV:= @List.length_cons
abbrev aY:= @List.length_append
abbrev bj:= @Option.bind_eq_some_iff
abbrev bq:= @List.sum_cons
abbrev bv:= @List.flatMap_cons
abbrev bw:= @List.take_of_length_le
abbrev bC:= @Array.getElem?_modify
abbrev bD:= @List.eq_nil_of_length_eq_zero
abbrev bE:= @List.mem_cons_of_mem
abbrev bO:= @info_parts
abbrev bP:= @List.setIfInBounds_toArray
abbrev bQ:= @decide_eq_true_eq
abbrev bT:= @List.map_nil
abbrev bW:= @ByteArray.toList_eq
abbrev bX:= @List.all_eq_true
abbrev bY:= @Option.map_eq_some_iff
abbrev b8:= @List.mem_cons
abbrev b9:= @List.mem_map
abbrev cd:= @beq_iff_eq
abbrev cg:= @run_underlying
abbrev cE:= @if_true
abbrev cH:= @List.getElem?_cons_zero
abbrev cI:= @List.getElem?_of_mem
abbrev cN:= @List.mem_append
abbrev cO:= @Nat.zero_add
abbrev cU:= @List.getElem?_cons_succ
abbrev cV:= @World.grownBy_alloc
abbrev cZ:= @List.mem_singleton
abbrev da:= @List.set_cons_succ
abbrev dc:= @List.set_cons_zero
abbrev dd:= @Option.bind_some
abbrev dg:= @List.getElem?_append_left
abbrev dm:= @List.getElem?_map
abbrev dn:= @Nat.le_of_eq
abbrev du:= @List.length_take
abbrev dv:= @List.take_add_one
abbrev dN:= @bodyPost_end
abbrev dY:= @Bool.true_and
abbrev dZ:= @List.append_nil
abbrev ed:= @List.getElem?_append_right
abbrev ee:= @List.getElem?_eq_none
abbrev eg:= @World.ownsRow_nil
abbrev eA:= @Addr.add_lit
abbrev eC:= @Below.heap_setCell
abbrev eD:= @List.length_drop
abbrev eE:= @List.nodup_append
abbrev eF:= @Nat.add_sub_cancel
abbrev eR:= @List.drop_eq_getElem_cons
abbrev eS:= @List.size_toArray
abbrev fC:= @List.cons_append
abbrev fD:= @List.foldl_cons
abbrev fE:= @List.length_map
abbrev fF:= @List.map_append
abbrev fG:= @List.map_map
abbrev fH:= @Nat.le_succ
abbrev fI:= @Prod.mk.injEq
abbrev fJ:= @of_decide_eq_true
abbrev gd:= @List.not_mem_nil
abbrev ge:= @List.prefix_refl
abbrev gf:= @Option.isSome_iff_exists
abbrev gg:= @World.grownBy.refl
abbrev gh:= @beq_eq_false_iff_ne
abbrev gi:= @or_false
abbrev gZ:= @Array.length_toList
abbrev g8:= @Bool.and_self
abbrev g9:= @Bool.or_eq_true
abbrev hU:= @List.set_append_right
abbrev ia:= @Prod.ext
abbrev ib:= @WalkArith.wf_i64
abbrev jf:= @List.drop_eq_nil_of_le
abbrev jg:= @List.find?_cons
abbrev jh:= @List.getElem_mem
abbrev ji:= @List.map_congr_left
abbrev jj:= @List.mem_flatMap
abbrev jk:= @List.sum_nil
abbrev jl:= @List.take_append_drop
abbrev jm:= @List.take_append_of_le_length
abbrev jn:= @Nat.le_add_right
abbrev jo:= @Nat.sub_self
abbrev jp:= @World.block_lt_of_cell?
abbrev gH:= @World.cell?_setCell_same
abbrev gI:= @World.size_alloc
abbrev gJ:= @decide_eq_true
abbrev iH:= @DataW.trod_int
abbrev iI:= @DataW.trod_struct
abbrev iJ:= @Int.le_refl
abbrev iK:= @List.all_cons
abbrev iL:= @List.length_nil
abbrev iM:= @List.mem_map_of_mem
abbrev iN:= @Nat.add_zero
abbrev iO:= @World.frozen?_of_block
abbrev j0:= @List.all_append
abbrev j8:= @List.flatMap_append
abbrev j9:= @List.getElem?_drop
abbrev ke:= @List.getElem?_take
abbrev kh:= @List.nodup_cons
abbrev kj:= @MapKept.run_getObj_map
abbrev km:= @Option.isNone_iff_eq_none
abbrev ko:= @Option.not_isSome
abbrev kp:= @Option.some.injEq
abbrev kt:= @wpList_make_full
abbrev l6:= @Array.getElem?_toList
abbrev l7:= @Array.toList_inj
abbrev l9:= @Go.WideMaps.keyOf_string_mk
abbrev mf:= @List.append_assoc
abbrev mg:= @List.foldl_append
abbrev mh:= @List.getD_eq_getElem?_getD
abbrev mi:= @List.map_toArray
abbrev mj:= @List.mem_append_left
abbrev mm:= @List.nil_append
abbrev mn:= @List.replicate_zero
abbrev mq:= @Option.isSome_none
abbrev mr:= @Option.isSome_some
abbrev mu:= @Result.andThen_ok
abbrev oA:= @Bool.false_eq_true
abbrev oB:= @Bool.not_eq_true'
abbrev oC:= @DataW.trod_string
abbrev oD:= @List.drop_append_of_le_length
abbrev oE:= @List.drop_of_length_le
abbrev oF:= @List.find?_eq_none
abbrev oG:= @List.findIdx?_eq_none_iff
abbrev oH:= @List.mem_cons_self
abbrev oI:= @List.prefix_append
abbrev oJ:= @List.take_succ_eq_append_getElem
abbrev oK:= @List.toList_toArray
abbrev oL:= @UInt8.lt_iff_toNat_lt
abbrev oM:= @World.cells?_some
abbrev oN:= @World.ownsMap_made
abbrev oO:= @World.ownsRow.kept
abbrev oP:= @run_storeCells_at
abbrev rW:= @ChangeMaps.heap_setBlock_same
abbrev rX:= @List.eraseIdx_eq_take_drop_succ
abbrev rY:= @List.getElem?_take_of_lt
abbrev rZ:= @List.mem_of_find?_eq_some
abbrev r7:= @List.mem_or_eq_of_mem_set
abbrev ag(w w':World):Prop:=Below w.heap.size w w'
abbrev ah:=Calls Tryz.prog
theorem iQ{k:IntKind}{a b:Int}(c:a=b):Ending.returned (.int k a)=.returned (.int k b):=by rw[c]
theorem aj{p:Prop}(a:p):Hid p:=a
theorem cB{w w1:World}(a:Below w.drew.heap.size w.drew w1):ag w w1:=⟨a.os,a.tape,a.output,a.size,a.block⟩
theorem am{B:Nat}{w w1:World}(a:Below B w w1):∀b o,b<B->w1.cell? ⟨b,o,none⟩=w.cell? ⟨b,o,none⟩:=λb o c=>a.cell (p:=⟨b,o,none⟩) c
def Tm:Nat->Type
 | 0=>Unit
 | n+1=>(Int×Int×ByteArray)×(Option Addr×Nat)×List (Tm n)
def df:(n:Nat)->Tm n->Value
 | 0,_=> .nilIface
 | _+1,x=> .agg #[.int .i64 x.1.1,.int .i64 x.1.2.1,.string x.1.2.2,.slice x.2.1.1 x.2.2.length x.2.1.2]
def dA(w:World)(b o:Nat):(n:Nat)->Tm n->Prop
 | 0,_=>False
 | _+1,x=>w.cell? ⟨b,o,none⟩=some (.int .i64 x.1.1)/\w.cell? ⟨b,o+1,none⟩=some (.int .i64 x.1.2.1)/\
    w.cell? ⟨b,o+2,none⟩=some (.string x.1.2.2)/\w.cell? ⟨b,o+3,none⟩=some (.slice x.2.1.1 x.2.2.length x.2.1.2)
def dj(k:Int):Prop:=-9223372036854775808<=k/\k<=9223372036854775807
def In(B:Nat)(w:World):(n:Nat)->Tm n->Prop
 | 0,_=>False
 | n+1,x=>(dj x.1.1/\dj x.1.2.1/\x.1.2.2.size<=maxLen/\x.2.2.length<=x.2.1.2/\x.2.1.2<=maxLen)/\
    (x.2.2=[]\/∃b o,x.2.1.1=some ⟨b,o,none⟩/\b<B/\∀(i:Nat)(y:Tm n),x.2.2[i]?=some y->dA w b (o+i*4) n y/\In B w n y)
theorem dA.below{B:Nat}{w w':World}(a:Below B w w'){b o:Nat}(c:b<B):{n:Nat}->{x:Tm n}->dA w b o n x->dA w' b o n x
 | 0,_,k=>k
 | _+1,_,k=>by
  obtain⟨d,e,f,g⟩:=k;exact⟨(a.cell (p:=⟨b,o,none⟩) c).trans d,(a.cell (p:=⟨b,o+1,none⟩) c).trans e,(a.cell (p:=⟨b,o+2,none⟩) c).trans f,(a.cell (p:=⟨b,o+3,none⟩) c).trans g⟩
theorem In.below{B:Nat}{w w':World}(c:Below B w w'):{n:Nat}->{x:Tm n}->In B w n x->In B w' n x
 | 0,_,k=>k
 | _+1,_,k=>by
  obtain⟨g,a⟩:=k;refine⟨g,?_⟩;rcases a with a|⟨b,o,e,d,a⟩
  ·exact ae a
  ·exact af ⟨b,o,e,d,λi y f=>⟨(a i y f).1.below c d,(a i y f).2.below c⟩⟩
theorem In.mono{B C:Nat}(d:B<=C){w:World}:{n:Nat}->{x:Tm n}->In B w n x->In C w n x
 | 0,_,k=>k
 | _+1,_,k=>by
  obtain⟨f,a⟩:=k;refine⟨f,?_⟩;rcases a with a|⟨b,o,e,g,a⟩
  ·exact ae a
  ·exact af ⟨b,o,e,by omega,λi y c=>⟨(a i y c).1,(a i y c).2.mono d⟩⟩
def nv(x y:Int):Int:=if x<y then -1 else if y<x then 1 else 0
def vq(x y:ByteArray):Int:=if Op.bytesLess x.toList y.toList then -1 else if !Op.bytesLess x.toList y.toList && !(x.toList==y.toList)then 1 else 0
def oU{c d:Type}(f:c->d->Int):List c->List d->Int
 | a::p,b::q=>if f a b=0 then oU f p q else f a b
 | _,_=>0
def ww:(n:Nat)->Tm n->(m:Nat)->Tm m->Int
 | n+1,x,m+1,y=>
  if x.1.1=y.1.1 then
   if x.1.1=1\/x.1.1=3\/x.1.1=5 then nv x.1.2.1 y.1.2.1
   else if x.1.1=2 then vq x.1.2.2 y.1.2.2
   else if x.1.1=4 then
    if x.2.2.length=y.2.2.length then oU (λa b=>ww n a m b) x.2.2 y.2.2 else nv x.2.2.length y.2.2.length
   else 0
  else nv x.1.1 y.1.1
 | _,_,_,_=>0
theorem FV{c d:Type}(f:c->d->Int)(p:List c)(q:List d)(k:Nat)(a:c)(b:d)(j:p[k]?=some a)(l:q[k]?=some b):oU f (p.drop k) (q.drop k)=if f a b=0 then oU f (p.drop (k+1)) (q.drop (k+1))else f a b:=by
 obtain⟨h,e⟩:=aL.1 j;obtain⟨i,g⟩:=aL.1 l;rw[eR h,eR i,e,g];rfl
abbrev Nd:Type:=(Int×Int×ByteArray)×(Option Addr×Nat×Nat)
def uB(x:Nd):List Value:=[.int .i64 x.1.1,.int .i64 x.1.2.1,.string x.1.2.2,.slice x.2.1 x.2.2.1 x.2.2.2]
def ci(l:List Nd):List Value:=l.flatMap uB
def ar:(n:Nat)->Tm n->List Nd
 | 0,_=> [((0,0,.empty),(none,0,0))]
 | n+1,x=>(x.1,(x.2.1.1,x.2.2.length,x.2.1.2))::x.2.2.flatMap λy=>ar n y
def oZ:(n:Nat)->Tm n->Int->List Int
 | 0,_,d=> [d]
 | n+1,x,d=>d::x.2.2.flatMap λy=>oZ n y (d+1)
theorem Ab{b d e:Type}(f:b->List d)(g:b->List e)(c:∀a,(f a).length=(g a).length)(l:List b):(l.flatMap f).length=(l.flatMap g).length:=by
 induction l with
 | nil=>rfl
 | cons a l ih=>simp only[bv,aY,ih,c]
theorem jJ:(n:Nat)->(x:Tm n)->(d:Int)->(oZ n x d).length=(ar n x).length
 | 0,_,_=>rfl
 | n+1,x,d=>by
  simp only[oZ,ar,aV];rw[Ab (λy=>oZ n y (d+1)) (λy=>ar n y) (λy=>jJ n y (d+1))]
theorem nD(l:List Nd):(ci l).length=l.length*4:=by
 induction l with
 | nil=>rfl
 | cons a l ih=>simp only[ci,bv,aY,aV]at ih ⊢;rw[ih];simp[uB];omega
theorem uC(l r:List Nd):ci (l++r)=ci l++ci r:=by simp[ci]
theorem sw(l:List Nd):∀b∈ci l,b.oneCell'=true:=by
 intro b a;simp only[ci,jj,uB]at a;obtain⟨c,_,a⟩:=a;simp at a;rcases a with rfl|rfl|rfl|rfl<;>rfl
theorem Gt{a e:Type}(f:a->List e)(l:List a)(k:Nat)(x:a)(c:l[k]?=some x):(l.take (k+1)).flatMap f=(l.take k).flatMap f++f x:=by
 obtain⟨d,b⟩:=aL.1 c;rw[oJ d,b];simp
theorem EB{a b:Type}(f:a->List b)(l:List a)(k:Nat):((l.take k).flatMap f).length<=(l.flatMap f).length:=by
 conv=>rhs;rw[<-jl k l]
 rw[j8,aY];omega
theorem dF{w w':World}{base e size:Nat}{v:Value}{n:Nat}{xs:List Value}(b:w.ownsRow base e size v n xs)(a:ag w w'):w'.ownsRow base e size v n xs:=
 b.kept (row:=none) ⟨a.os,a.tape,a.output,a.size,λk c _=>a.block k c⟩ (by cases v.ownBlock<;>simp)
theorem qK{w:World}{base b e size:Nat}{v:Value}{n:Nat}{xs:List Value}(f:w.ownsRow base e size v n xs)(k:b<=base):w.ownsRow b e size v n xs:=by
 obtain⟨g,a⟩:=f;refine⟨g,?_⟩;rcases a with a|⟨d,cap,c,i,l,h,j⟩
 ·exact ae a
 ·exact af ⟨d,cap,c,i,by omega,h,j⟩
theorem fY:(Tryz.prog.info? 30).map (λi=>(i.zero,i.size,i.bytes))=some (some (.agg #[.int .i64 0,.int .i64 0,.string .empty,.slice none 0 0]),4,56):=by kernel_rfl
theorem Ee:(Tryz.prog.info? 3).map (λi=>(i.zero,i.size,i.bytes))=some (some (.int .i64 0),1,8):=by kernel_rfl
def pZ(n lo a:Int):Bool:=decide (lo<=n) && decide (n<=a)
def yg(c:UInt8):Bool:=decide (97<=(c.toNat:Int)) && decide ((c.toNat:Int)<=122)
def fR(l:List UInt8):Bool:=l.all yg
def dC(s:ByteArray):Bool:=pZ s.size 1 8 && fR s.data.toList
theorem bH{a b:Bool}(c:a=b):Ending.returned (.bool a)=.returned (.bool b):=by rw[c]
theorem rT(s:ByteArray)(k:Nat)(a:k<s.size):s.data.toList.take (k+1)=s.data.toList.take k++ [s[k]]:=by
 rw[oJ (by simpa using a)];rfl
theorem uu(s:ByteArray)(k:Nat)(a:k<s.size):fR (s.data.toList.take (k+1))=(fR (s.data.toList.take k) && yg s[k]):=by
 rw[rT s k a];simp[fR]
def sz:(n:Nat)->Tm n->Int
 | 0,_=>0
 | n+1,x=>if x.1.1=4 then 1+(x.2.2.map λy=>1+sz n y).sum else 0
theorem ez:(n:Nat)->(x:Tm n)->0<=sz n x/\sz n x+1<=2*((ar n x).length:Int)
 | 0,_=>⟨by simp[sz],by simp[sz,ar]⟩
 | n+1,x=>by
  have key:∀l:List (Tm n),0<=(l.map λy=>1+sz n y).sum/\(l.map λy=>1+sz n y).sum<=2*((l.flatMap λy=>ar n y).length:Int):=by
   intro l
   induction l with
   | nil=>exact⟨by simp,by simp⟩
   | cons y l ih=>
    have b:=ez n y;simp only[aG,bq,bv,aY];exact⟨by omega,by omega⟩
  have k:=key x.2.2;simp only[sz,ar,aV];by_cases a:x.1.1=4
  ·rw[if_pos a];exact⟨by omega,by omega⟩
  ·rw[if_neg a];exact⟨by omega,by omega⟩
def co(x:Nd):Bool:=
 (if x.1.1=1 then x.1.2.2.toList.isEmpty && pZ x.1.2.1 (-1099511627776) 1099511627776
  else if x.1.1=2 then dC x.1.2.2 && x.1.2.1==0
  else if x.1.1=3 then x.1.2.2.toList.isEmpty && pZ x.1.2.1 1 99
  else if x.1.1=4 then x.1.2.2.toList.isEmpty && x.1.2.1==0 && decide ((x.2.2.1:Int)<=8)
  else if x.1.1=5 then x.1.2.2.toList.isEmpty && pZ x.1.2.1 0 3
  else if x.1.1=6 then x.1.2.2.toList.isEmpty && x.1.2.1==0
  else false) && (x.1.1==4 || !decide ((0:Int)<(x.2.2.1:Int)))
def mD(x:Nd)(d m:Int):Int:=if x.1.1=4/\m<d+1 then d+1 else m
def B9(a:Int):List Nd->List Int->Int->Int
 | x::l,d::ds,m=>if co x then B9 a l ds (mD x d m)else 5
 | _,_,m=>if 12<m\/200<a then 2 else 0
def bm(n:Nat)(x:Tm n):Int:=B9 (sz n x) (ar n x) (oZ n x 0) 0
theorem iy(l:List Nd)(k:Nat)(x:Nd)(b:l[k]?=some x)(j:Nat)(e:j<4):(ci l)[k*4+j]?=(uB x)[j]? :=by
 induction l generalizing k with
 | nil=>simp at b
 | cons a l ih=>
  have c:ci (a::l)=uB a++ci l:=rfl;have d:(uB a).length=4:=rfl;rw[c];cases k with
  | zero=>
   have:a=x:=by simpa using b
   subst this;rw[dg (by omega)];simp
  | succ k=>
   rw[ed (by omega),d,<-ih k (by simpa using b)];congr 1;omega
theorem eO(g j:Nat):(⟨g,0,none⟩:Addr).add j=⟨g,j,none⟩:=by unfold Addr.add;split<;>simp_all
theorem CU{w:World}{base g c L:Nat}{l:List Nd}(d:w.ownsRow base 30 4 (.slice (some ⟨g,0,none⟩) L c) L (ci l))(k:Nat)(x:Nd)(b:l[k]?=some x):w.cell? ⟨g,k*4,none⟩=some (.int .i64 x.1.1)/\w.cell? ⟨g,k*4+1,none⟩=some (.int .i64 x.1.2.1)/\w.cell? ⟨g,k*4+2,none⟩=some (.string x.1.2.2)/\w.cell? ⟨g,k*4+3,none⟩=some (.slice x.2.1 x.2.2.1 x.2.2.2):=by
 have a:=d.cells (g:=g) rfl;refine⟨?_,?_,?_,?_⟩
 ·have:=a (k*4+0) (.int .i64 x.1.1) (by rw[iy l k x b 0 (by omega)];rfl);rw[eO]at this;exact this
 ·have:=a (k*4+1) (.int .i64 x.1.2.1) (by rw[iy l k x b 1 (by omega)];rfl);rw[eO]at this;exact this
 ·have:=a (k*4+2) (.string x.1.2.2) (by rw[iy l k x b 2 (by omega)];rfl);rw[eO]at this;exact this
 ·have:=a (k*4+3) (.slice x.2.1 x.2.2.1 x.2.2.2) (by rw[iy l k x b 3 (by omega)];rfl);rw[eO]at this;exact this
end Go.Proofs.YtckamaoibonjcaaGreat
