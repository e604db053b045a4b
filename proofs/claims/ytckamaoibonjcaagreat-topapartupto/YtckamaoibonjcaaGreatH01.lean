/- What is proved here: plain facts and contracts that the claimed theorem stands on. No condition but those that each names. -/
import Derived.Test.YtckamaoibonjcaaGreatRows
import Derived.WalkKit
import Derived.WalkSpells
import Derived.WalkLawsBesides
import Derived.Deep.AppendLies
namespace Go.Proofs.YtckamaoibonjcaaGreat
open Go.RowKit
abbrev ag:= @Or.inl
abbrev ah:= @Or.inr
abbrev aj:= @Nat.le_refl
abbrev am:= @Below.refl
abbrev ar:= @bodyPost_ret
abbrev au:= @Option.some.inj
abbrev ax:= @Nat.le_trans
abbrev aC:= @Array.getElem?_eq_some_iff
abbrev az:= @heap_alloc_new
abbrev aB:= @Bool.and_eq_true
abbrev aE:= @List.getElem?_eq_getElem
abbrev aF:= @Nat.zero_le
abbrev aG:= @List.mem_of_getElem?
abbrev aI:= @List.map_cons
abbrev aL:= @Nat.lt_of_lt_of_le
abbrev aM:= @List.getElem?_eq_some_iff
abbrev aZ:= @List.length_cons
abbrev bf:= @List.length_append
abbrev br:= @Option.bind_eq_some_iff
abbrev bv:= @List.flatMap_cons
abbrev bw:= @List.take_of_length_le
abbrev bB:= @List.eq_nil_of_length_eq_zero
abbrev bC:= @List.sum_cons
abbrev bG:= @Array.getElem?_modify
abbrev bH:= @List.mem_cons_of_mem
abbrev bQ:= @info_parts
abbrev bR:= @List.map_nil
abbrev bS:= @List.setIfInBounds_toArray
abbrev bU:= @List.mem_map
abbrev bV:= @beq_iff_eq
abbrev bX:= @decide_eq_true_eq
abbrev b8:= @ByteArray.toList_eq
abbrev b9:= @List.all_eq_true
abbrev cd:= @Option.map_eq_some_iff
abbrev ch:= @run_underlying
abbrev cB:= @List.mem_cons
abbrev cI:= @List.getElem?_cons_zero
abbrev cJ:= @List.getElem?_of_mem
abbrev cM:= @if_true
abbrev cP:= @Nat.zero_add
abbrev cV:= @List.getElem?_cons_succ
abbrev cW:= @World.grownBy_alloc
abbrev da:= @List.mem_append
abbrev dc:= @List.set_cons_succ
abbrev dd:= @List.set_cons_zero
abbrev dg:= @List.getElem?_append_left
abbrev dh:= @List.getElem?_map
abbrev dm:= @Nat.le_of_eq
abbrev dn:= @Option.bind_some
abbrev dw:= @List.length_take
abbrev dx:= @List.take_add_one
abbrev dD:= @List.mem_singleton
abbrev dN:= @List.getElem?_append_right
abbrev dO:= @bodyPost_end
abbrev dZ:= @Bool.true_and
abbrev ed:= @List.append_nil
abbrev ee:= @List.drop_eq_getElem_cons
abbrev eg:= @List.getElem?_eq_none
abbrev eh:= @List.length_map
abbrev ei:= @Prod.mk.injEq
abbrev ek:= @World.ownsRow_nil
abbrev eI:= @Addr.add_lit
abbrev eJ:= @Below.heap_setCell
abbrev eK:= @List.length_drop
abbrev eL:= @List.nodup_append
abbrev eM:= @Nat.add_sub_cancel
abbrev eN:= @of_decide_eq_true
abbrev eZ:= @List.find?_cons
abbrev e9:= @List.size_toArray
abbrev fe:= @Nat.le_succ
abbrev fh:= @World.block_lt_of_cell?
abbrev fG:= @List.cons_append
abbrev fH:= @List.map_append
abbrev fI:= @List.map_map
abbrev fJ:= @Option.isSome_iff_exists
abbrev gd:= @List.drop_eq_nil_of_le
abbrev ge:= @List.foldl_cons
abbrev gf:= @List.not_mem_nil
abbrev gg:= @List.prefix_refl
abbrev gh:= @World.grownBy.refl
abbrev gi:= @beq_eq_false_iff_ne
abbrev gj:= @decide_eq_true
abbrev gm:= @or_false
abbrev gZ:= @Array.length_toList
abbrev g8:= @Bool.and_self
abbrev g9:= @Bool.or_eq_true
abbrev hU:= @List.set_append_right
abbrev ia:= @Prod.ext
abbrev ib:= @WalkArith.wf_i64
abbrev je:= @List.getElem_mem
abbrev jf:= @List.map_congr_left
abbrev jg:= @List.mem_flatMap
abbrev jh:= @List.sum_nil
abbrev ji:= @List.take_append_drop
abbrev jj:= @List.take_append_of_le_length
abbrev jk:= @Nat.le_add_right
abbrev gI:= @Nat.sub_self
abbrev gJ:= @World.cell?_setCell_same
abbrev gK:= @World.size_alloc
abbrev iH:= @DataW.trod_int
abbrev iI:= @DataW.trod_struct
abbrev iJ:= @Int.le_refl
abbrev iK:= @List.all_cons
abbrev iL:= @Nat.add_zero
abbrev iM:= @Option.some.injEq
abbrev iN:= @World.frozen?_of_block
abbrev jV:= @List.all_append
abbrev jW:= @List.flatMap_append
abbrev jX:= @List.getElem?_drop
abbrev jY:= @List.getElem?_take
abbrev jZ:= @List.length_nil
abbrev j0:= @List.mem_map_of_mem
abbrev j8:= @List.nodup_cons
abbrev j9:= @MapKept.run_getObj_map
abbrev ke:= @Option.isNone_iff_eq_none
abbrev kh:= @Option.not_isSome
abbrev kj:= @decide_eq_false
abbrev km:= @wpList_make_full
abbrev lW:= @Array.getElem?_toList
abbrev lX:= @Array.toList_inj
abbrev lY:= @Go.WideMaps.keyOf_string_mk
abbrev lZ:= @List.append_assoc
abbrev l6:= @List.cons.injEq
abbrev l7:= @List.find?_eq_none
abbrev l9:= @List.foldl_append
abbrev mf:= @List.getD_eq_getElem?_getD
abbrev mg:= @List.map_toArray
abbrev mh:= @List.mem_append_left
abbrev mi:= @List.nil_append
abbrev mj:= @List.replicate_zero
abbrev mm:= @Option.isSome_none
abbrev mn:= @Option.isSome_some
abbrev mq:= @Result.andThen_ok
abbrev oA:= @Bool.false_eq_true
abbrev oB:= @Bool.not_eq_true'
abbrev oC:= @DataW.trod_string
abbrev oD:= @List.drop_append_of_le_length
abbrev oE:= @List.drop_of_length_le
abbrev oF:= @List.findIdx?_eq_none_iff
abbrev oG:= @List.mem_cons_self
abbrev oH:= @List.prefix_append
abbrev oI:= @List.take_succ_eq_append_getElem
abbrev oJ:= @List.toList_toArray
abbrev oK:= @UInt8.lt_iff_toNat_lt
abbrev oL:= @World.cells?_some
abbrev oM:= @World.ownsMap_made
abbrev oN:= @World.ownsRow.kept
abbrev oO:= @run_storeCells_at
abbrev rU:= @ChangeMaps.heap_setBlock_same
abbrev rV:= @List.eraseIdx_eq_take_drop_succ
abbrev rW:= @List.getElem?_take_of_lt
abbrev rX:= @List.mem_of_find?_eq_some
abbrev rY:= @List.mem_or_eq_of_mem_set
abbrev ab(x:Int):Value:=.int .i64 x
abbrev ae(s:ByteArray):Value:=.string s
abbrev ai(w w':World):Prop:=Below w.heap.size w w'
abbrev ak:=Calls Tryz.prog
theorem iP{k:IntKind}{a b:Int}(c:a=b):Ending.returned (.int k a)=.returned (.int k b):=by rw[c]
theorem ao{p:Prop}(a:p):Hid p:=a
theorem cD{w w1:World}(a:Below w.drew.heap.size w.drew w1):ai w w1:=⟨a.os,a.tape,a.output,a.size,a.block⟩
theorem ap{B:Nat}{w w1:World}(a:Below B w w1):∀b o,b<B->w1.cell? ⟨b,o,none⟩=w.cell? ⟨b,o,none⟩:=λb o c=>a.cell (p:=⟨b,o,none⟩) c
def Tm:Nat->Type
 | 0=>Unit
 | n+1=>(Int×Int×ByteArray)×(Option Addr×Nat)×List (Tm n)
def df:(n:Nat)->Tm n->Value
 | 0,_=> .nilIface
 | _+1,x=> .agg #[ab x.1.1,ab x.1.2.1,ae x.1.2.2,.slice x.2.1.1 x.2.2.length x.2.1.2]
def dr(w:World)(b o:Nat):(n:Nat)->Tm n->Prop
 | 0,_=>False
 | _+1,x=>w.cell? ⟨b,o,none⟩=some (ab x.1.1)/\w.cell? ⟨b,o+1,none⟩=some (ab x.1.2.1)/\
    w.cell? ⟨b,o+2,none⟩=some (ae x.1.2.2)/\w.cell? ⟨b,o+3,none⟩=some (.slice x.2.1.1 x.2.2.length x.2.1.2)
def dk(k:Int):Prop:=-9223372036854775808<=k/\k<=9223372036854775807
def In(B:Nat)(w:World):(n:Nat)->Tm n->Prop
 | 0,_=>False
 | n+1,x=>(dk x.1.1/\dk x.1.2.1/\x.1.2.2.size<=maxLen/\x.2.2.length<=x.2.1.2/\x.2.1.2<=maxLen)/\
    (x.2.2=[]\/∃b o,x.2.1.1=some ⟨b,o,none⟩/\b<B/\∀(i:Nat)(y:Tm n),x.2.2[i]?=some y->dr w b (o+i*4) n y/\In B w n y)
theorem dr.below{B:Nat}{w w':World}(a:Below B w w'){b o:Nat}(c:b<B):{n:Nat}->{x:Tm n}->dr w b o n x->dr w' b o n x
 | 0,_,k=>k
 | _+1,_,k=>by
  obtain⟨d,e,f,g⟩:=k;exact⟨(a.cell (p:=⟨b,o,none⟩) c).trans d,(a.cell (p:=⟨b,o+1,none⟩) c).trans e,(a.cell (p:=⟨b,o+2,none⟩) c).trans f,(a.cell (p:=⟨b,o+3,none⟩) c).trans g⟩
theorem In.below{B:Nat}{w w':World}(c:Below B w w'):{n:Nat}->{x:Tm n}->In B w n x->In B w' n x
 | 0,_,k=>k
 | _+1,_,k=>by
  obtain⟨g,a⟩:=k;refine⟨g,?_⟩;rcases a with a|⟨b,o,e,d,a⟩
  ·exact ag a
  ·exact ah ⟨b,o,e,d,λi y f=>⟨(a i y f).1.below c d,(a i y f).2.below c⟩⟩
theorem In.mono{B C:Nat}(d:B<=C){w:World}:{n:Nat}->{x:Tm n}->In B w n x->In C w n x
 | 0,_,k=>k
 | _+1,_,k=>by
  obtain⟨f,a⟩:=k;refine⟨f,?_⟩;rcases a with a|⟨b,o,e,g,a⟩
  ·exact ag a
  ·exact ah ⟨b,o,e,by omega,λi y c=>⟨(a i y c).1,(a i y c).2.mono d⟩⟩
def nv(x y:Int):Int:=if x<y then -1 else if y<x then 1 else 0
def vu(x y:ByteArray):Int:=if Op.bytesLess x.toList y.toList then -1 else if !Op.bytesLess x.toList y.toList && !(x.toList==y.toList)then 1 else 0
def oT{c d:Type}(f:c->d->Int):List c->List d->Int
 | a::p,b::q=>if f a b=0 then oT f p q else f a b
 | _,_=>0
def wC:(n:Nat)->Tm n->(m:Nat)->Tm m->Int
 | n+1,x,m+1,y=>
  if x.1.1=y.1.1 then
   if x.1.1=1\/x.1.1=3\/x.1.1=5 then nv x.1.2.1 y.1.2.1
   else if x.1.1=2 then vu x.1.2.2 y.1.2.2
   else if x.1.1=4 then
    if x.2.2.length=y.2.2.length then oT (λa b=>wC n a m b) x.2.2 y.2.2 else nv x.2.2.length y.2.2.length
   else 0
  else nv x.1.1 y.1.1
 | _,_,_,_=>0
theorem FY{c d:Type}(f:c->d->Int)(p:List c)(q:List d)(k:Nat)(a:c)(b:d)(j:p[k]?=some a)(l:q[k]?=some b):oT f (p.drop k) (q.drop k)=if f a b=0 then oT f (p.drop (k+1)) (q.drop (k+1))else f a b:=by
 obtain⟨h,e⟩:=aM.1 j;obtain⟨i,g⟩:=aM.1 l;rw[ee h,ee i,e,g];rfl
abbrev Nd:Type:=(Int×Int×ByteArray)×(Option Addr×Nat×Nat)
def uF(x:Nd):List Value:=[ab x.1.1,ab x.1.2.1,ae x.1.2.2,.slice x.2.1 x.2.2.1 x.2.2.2]
def cm(l:List Nd):List Value:=l.flatMap uF
def av:(n:Nat)->Tm n->List Nd
 | 0,_=> [((0,0,.empty),(none,0,0))]
 | n+1,x=>(x.1,(x.2.1.1,x.2.2.length,x.2.1.2))::x.2.2.flatMap λy=>av n y
def oY:(n:Nat)->Tm n->Int->List Int
 | 0,_,d=> [d]
 | n+1,x,d=>d::x.2.2.flatMap λy=>oY n y (d+1)
theorem zY{b d e:Type}(f:b->List d)(g:b->List e)(c:∀a,(f a).length=(g a).length)(l:List b):(l.flatMap f).length=(l.flatMap g).length:=by
 induction l with
 | nil=>rfl
 | cons a l ih=>simp only[bv,bf,ih,c]
theorem jE:(n:Nat)->(x:Tm n)->(d:Int)->(oY n x d).length=(av n x).length
 | 0,_,_=>rfl
 | n+1,x,d=>by
  simp only[oY,av,aZ];rw[zY (λy=>oY n y (d+1)) (λy=>av n y) (λy=>jE n y (d+1))]
theorem nE(l:List Nd):(cm l).length=l.length*4:=by
 induction l with
 | nil=>rfl
 | cons a l ih=>simp only[cm,bv,bf,aZ]at ih ⊢;rw[ih];simp[uF];omega
theorem uG(l r:List Nd):cm (l++r)=cm l++cm r:=by simp[cm]
theorem sr(l:List Nd):∀b∈cm l,b.oneCell'=true:=by
 intro b a;simp only[cm,jg,uF]at a;obtain⟨c,_,a⟩:=a;simp at a;rcases a with rfl|rfl|rfl|rfl<;>rfl
theorem Gw{a e:Type}(f:a->List e)(l:List a)(k:Nat)(x:a)(c:l[k]?=some x):(l.take (k+1)).flatMap f=(l.take k).flatMap f++f x:=by
 obtain⟨d,b⟩:=aM.1 c;rw[oI d,b];simp
theorem Ey{a b:Type}(f:a->List b)(l:List a)(k:Nat):((l.take k).flatMap f).length<=(l.flatMap f).length:=by
 conv=>rhs;rw[<-ji k l]
 rw[jW,bf];omega
theorem dG{w w':World}{base e size:Nat}{v:Value}{n:Nat}{xs:List Value}(b:w.ownsRow base e size v n xs)(a:ai w w'):w'.ownsRow base e size v n xs:=
 b.kept (row:=none) ⟨a.os,a.tape,a.output,a.size,λk c _=>a.block k c⟩ (by cases v.ownBlock<;>simp)
theorem qK{w:World}{base b e size:Nat}{v:Value}{n:Nat}{xs:List Value}(f:w.ownsRow base e size v n xs)(k:b<=base):w.ownsRow b e size v n xs:=by
 obtain⟨g,a⟩:=f;refine⟨g,?_⟩;rcases a with a|⟨d,cap,c,i,l,h,j⟩
 ·exact ag a
 ·exact ah ⟨d,cap,c,i,by omega,h,j⟩
theorem fY:(Tryz.prog.info? 30).map (λi=>(i.zero,i.size,i.bytes))=some (some (.agg #[ab 0,ab 0,ae .empty,.slice none 0 0]),4,56):=by kernel_rfl
theorem Ec:(Tryz.prog.info? 3).map (λi=>(i.zero,i.size,i.bytes))=some (some (ab 0),1,8):=by kernel_rfl
def pY(n lo a:Int):Bool:=decide (lo<=n) && decide (n<=a)
def ye(c:UInt8):Bool:=decide (97<=(c.toNat:Int)) && decide ((c.toNat:Int)<=122)
def fR(l:List UInt8):Bool:=l.all ye
def dE(s:ByteArray):Bool:=pY s.size 1 8 && fR s.data.toList
theorem bK{a b:Bool}(c:a=b):Ending.returned (.bool a)=.returned (.bool b):=by rw[c]
theorem rQ(s:ByteArray)(k:Nat)(a:k<s.size):s.data.toList.take (k+1)=s.data.toList.take k++ [s[k]]:=by
 rw[oI (by simpa using a)];rfl
theorem uz(s:ByteArray)(k:Nat)(a:k<s.size):fR (s.data.toList.take (k+1))=(fR (s.data.toList.take k) && ye s[k]):=by
 rw[rQ s k a];simp[fR]
def sz:(n:Nat)->Tm n->Int
 | 0,_=>0
 | n+1,x=>if x.1.1=4 then 1+(x.2.2.map λy=>1+sz n y).sum else 0
theorem eH:(n:Nat)->(x:Tm n)->0<=sz n x/\sz n x+1<=2*((av n x).length:Int)
 | 0,_=>⟨by simp[sz],by simp[sz,av]⟩
 | n+1,x=>by
  have key:∀l:List (Tm n),0<=(l.map λy=>1+sz n y).sum/\(l.map λy=>1+sz n y).sum<=2*((l.flatMap λy=>av n y).length:Int):=by
   intro l
   induction l with
   | nil=>exact⟨by simp,by simp⟩
   | cons y l ih=>
    have b:=eH n y;simp only[aI,bC,bv,bf];exact⟨by omega,by omega⟩
  have k:=key x.2.2;simp only[sz,av,aZ];by_cases a:x.1.1=4
  ·rw[if_pos a];exact⟨by omega,by omega⟩
  ·rw[if_neg a];exact⟨by omega,by omega⟩
def cq(x:Nd):Bool:=
 (if x.1.1=1 then x.1.2.2.toList.isEmpty && pY x.1.2.1 (-1099511627776) 1099511627776
  else if x.1.1=2 then dE x.1.2.2 && x.1.2.1==0
  else if x.1.1=3 then x.1.2.2.toList.isEmpty && pY x.1.2.1 1 99
  else if x.1.1=4 then x.1.2.2.toList.isEmpty && x.1.2.1==0 && decide ((x.2.2.1:Int)<=8)
  else if x.1.1=5 then x.1.2.2.toList.isEmpty && pY x.1.2.1 0 3
  else if x.1.1=6 then x.1.2.2.toList.isEmpty && x.1.2.1==0
  else false) && (x.1.1==4 || !decide ((0:Int)<(x.2.2.1:Int)))
def mC(x:Nd)(d m:Int):Int:=if x.1.1=4/\m<d+1 then d+1 else m
def B8(a:Int):List Nd->List Int->Int->Int
 | x::l,d::ds,m=>if cq x then B8 a l ds (mC x d m)else 5
 | _,_,m=>if 12<m\/200<a then 2 else 0
def bq(n:Nat)(x:Tm n):Int:=B8 (sz n x) (av n x) (oY n x 0) 0
theorem iw(l:List Nd)(k:Nat)(x:Nd)(b:l[k]?=some x)(j:Nat)(e:j<4):(cm l)[k*4+j]?=(uF x)[j]? :=by
 induction l generalizing k with
 | nil=>simp at b
 | cons a l ih=>
  have c:cm (a::l)=uF a++cm l:=rfl;have d:(uF a).length=4:=rfl;rw[c];cases k with
  | zero=>
   have:a=x:=by simpa using b
   subst this;rw[dg (by omega)];simp
  | succ k=>
   rw[dN (by omega),d,<-ih k (by simpa using b)];congr 1;omega
theorem eV(g j:Nat):(⟨g,0,none⟩:Addr).add j=⟨g,j,none⟩:=by unfold Addr.add;split<;>simp_all
theorem CT{w:World}{base g c L:Nat}{l:List Nd}(d:w.ownsRow base 30 4 (.slice (some ⟨g,0,none⟩) L c) L (cm l))(k:Nat)(x:Nd)(b:l[k]?=some x):w.cell? ⟨g,k*4,none⟩=some (ab x.1.1)/\w.cell? ⟨g,k*4+1,none⟩=some (ab x.1.2.1)/\w.cell? ⟨g,k*4+2,none⟩=some (ae x.1.2.2)/\w.cell? ⟨g,k*4+3,none⟩=some (.slice x.2.1 x.2.2.1 x.2.2.2):=by
 have a:=d.cells (g:=g) rfl;refine⟨?_,?_,?_,?_⟩
 ·have:=a (k*4+0) (ab x.1.1) (by rw[iw l k x b 0 (by omega)];rfl);rw[eV]at this;exact this
 ·have:=a (k*4+1) (ab x.1.2.1) (by rw[iw l k x b 1 (by omega)];rfl);rw[eV]at this;exact this
 ·have:=a (k*4+2) (ae x.1.2.2) (by rw[iw l k x b 2 (by omega)];rfl);rw[eV]at this;exact this
 ·have:=a (k*4+3) (.slice x.2.1 x.2.2.1 x.2.2.2) (by rw[iw l k x b 3 (by omega)];rfl);rw[eV]at this;exact this
end Go.Proofs.YtckamaoibonjcaaGreat
