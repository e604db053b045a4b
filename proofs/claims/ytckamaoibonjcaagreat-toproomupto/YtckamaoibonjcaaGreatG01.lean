/- What is proved here: plain facts and contracts that the claimed theorem stands on. No condition but those that each names. -/
import Derived.Test.YtckamaoibonjcaaGreatRows
import Derived.WalkKit
import Derived.WalkSpells
import Derived.WalkLawsBesides
import Derived.Deep.AppendLies
namespace Go.Proofs.YtckamaoibonjcaaGreat
open Go.RowKit
abbrev ae:= @Or.inl
abbrev af:= @Or.inr
abbrev ai:= @Nat.le_refl
abbrev ak:= @Below.refl
abbrev ap:= @bodyPost_ret
abbrev aq:= @Option.some.inj
abbrev aw:= @Nat.le_trans
abbrev aA:= @Array.getElem?_eq_some_iff
abbrev ax:= @heap_alloc_new
abbrev ay:= @Bool.and_eq_true
abbrev aB:= @Nat.zero_le
abbrev aC:= @List.mem_of_getElem?
abbrev aD:= @List.getElem?_eq_getElem
abbrev aH:= @List.map_cons
abbrev aJ:= @Nat.lt_of_lt_of_le
abbrev aL:= @List.getElem?_eq_some_iff
abbrev aV:= @List.length_cons
abbrev aY:= @List.length_append
abbrev bj:= @Option.bind_eq_some_iff
abbrev bq:= @List.sum_cons
abbrev bv:= @List.flatMap_cons
abbrev bw:= @List.take_of_length_le
abbrev bC:= @Array.getElem?_modify
abbrev bD:= @List.eq_nil_of_length_eq_zero
abbrev bI:= @List.mem_cons_of_mem
abbrev bO:= @info_parts
abbrev bP:= @List.setIfInBounds_toArray
abbrev bS:= @List.map_nil
abbrev bT:= @decide_eq_true_eq
abbrev bW:= @ByteArray.toList_eq
abbrev bX:= @List.all_eq_true
abbrev bZ:= @List.mem_map
abbrev b8:= @Option.map_eq_some_iff
abbrev b9:= @beq_iff_eq
abbrev cd:= @run_underlying
abbrev cv:= @List.mem_cons
abbrev cG:= @List.getElem?_cons_zero
abbrev cH:= @if_true
abbrev cM:= @List.getElem?_of_mem
abbrev cN:= @Nat.zero_add
abbrev cT:= @List.getElem?_cons_succ
abbrev cU:= @List.mem_append
abbrev cV:= @World.grownBy_alloc
abbrev cZ:= @List.set_cons_succ
abbrev da:= @List.set_cons_zero
abbrev de:= @List.getElem?_append_left
abbrev dj:= @List.getElem?_map
abbrev dk:= @Nat.le_of_eq
abbrev dl:= @Option.bind_some
abbrev dr:= @List.length_take
abbrev dt:= @List.take_add_one
abbrev dA:= @List.mem_singleton
abbrev dM:= @bodyPost_end
abbrev dX:= @Bool.true_and
abbrev dY:= @List.append_nil
abbrev dZ:= @List.getElem?_append_right
abbrev ed:= @List.getElem?_eq_none
abbrev ee:= @World.ownsRow_nil
abbrev ez:= @Addr.add_lit
abbrev eA:= @Below.heap_setCell
abbrev eC:= @List.length_drop
abbrev eD:= @Nat.add_sub_cancel
abbrev eP:= @List.drop_eq_getElem_cons
abbrev eQ:= @List.nodup_append
abbrev eR:= @List.size_toArray
abbrev fz:= @List.cons_append
abbrev fA:= @List.length_map
abbrev fB:= @Nat.le_succ
abbrev fC:= @Prod.mk.injEq
abbrev fD:= @of_decide_eq_true
abbrev fU:= @List.foldl_cons
abbrev fV:= @List.map_map
abbrev fW:= @List.not_mem_nil
abbrev fX:= @List.prefix_refl
abbrev fY:= @Option.isSome_iff_exists
abbrev fZ:= @World.grownBy.refl
abbrev f9:= @beq_eq_false_iff_ne
abbrev gd:= @or_false
abbrev gS:= @Array.length_toList
abbrev gT:= @Bool.and_self
abbrev gU:= @Bool.or_eq_true
abbrev gV:= @List.map_append
abbrev gW:= @List.set_append_right
abbrev gX:= @Prod.ext
abbrev gY:= @WalkArith.wf_i64
abbrev ja:= @List.drop_eq_nil_of_le
abbrev jb:= @List.find?_cons
abbrev jc:= @List.getElem_mem
abbrev jd:= @List.mem_flatMap
abbrev je:= @List.sum_nil
abbrev jf:= @List.take_append_drop
abbrev jg:= @List.take_append_of_le_length
abbrev jh:= @Nat.le_add_right
abbrev ji:= @Nat.sub_self
abbrev jj:= @World.block_lt_of_cell?
abbrev jk:= @World.cell?_setCell_same
abbrev gC:= @World.size_alloc
abbrev gD:= @decide_eq_true
abbrev iB:= @DataW.trod_int
abbrev iC:= @DataW.trod_struct
abbrev iD:= @Int.le_refl
abbrev iE:= @List.all_cons
abbrev iF:= @List.length_nil
abbrev iG:= @List.map_congr_left
abbrev iH:= @List.mem_map_of_mem
abbrev iI:= @Nat.add_zero
abbrev iJ:= @World.frozen?_of_block
abbrev jV:= @List.all_append
abbrev jW:= @List.flatMap_append
abbrev jX:= @List.getElem?_drop
abbrev jY:= @List.getElem?_take
abbrev jZ:= @MapKept.run_getObj_map
abbrev j0:= @Option.isNone_iff_eq_none
abbrev j8:= @Option.not_isSome
abbrev j9:= @Option.some.injEq
abbrev ke:= @wpList_make_full
abbrev lV:= @Array.getElem?_toList
abbrev lW:= @Array.toList_inj
abbrev lX:= @Go.WideMaps.keyOf_string_mk
abbrev lY:= @List.append_assoc
abbrev lZ:= @List.foldl_append
abbrev l6:= @List.getD_eq_getElem?_getD
abbrev l7:= @List.map_toArray
abbrev l9:= @List.nil_append
abbrev mf:= @List.nodup_cons
abbrev mg:= @List.replicate_zero
abbrev mh:= @Option.isSome_none
abbrev mi:= @Option.isSome_some
abbrev mj:= @Result.andThen_ok
abbrev oo:= @Bool.false_eq_true
abbrev oq:= @Bool.not_eq_true'
abbrev ot:= @DataW.trod_string
abbrev ou:= @List.drop_append_of_le_length
abbrev ov:= @List.drop_of_length_le
abbrev oy:= @List.find?_eq_none
abbrev oz:= @List.findIdx?_eq_none_iff
abbrev oA:= @List.mem_cons_self
abbrev oB:= @List.prefix_append
abbrev oC:= @List.take_succ_eq_append_getElem
abbrev oD:= @List.toList_toArray
abbrev oE:= @UInt8.lt_iff_toNat_lt
abbrev oF:= @World.cells?_some
abbrev oG:= @World.ownsMap_made
abbrev oH:= @World.ownsRow.kept
abbrev oI:= @run_storeCells_at
abbrev rO:= @ChangeMaps.heap_setBlock_same
abbrev rP:= @List.eraseIdx_eq_take_drop_succ
abbrev rQ:= @List.getElem?_take_of_lt
abbrev rR:= @List.mem_or_eq_of_mem_set
abbrev ag(w w':World):Prop:=Below w.heap.size w w'
abbrev ah:=Calls Tryz.prog
theorem iL{k:IntKind}{a b:Int}(c:a=b):Ending.returned (.int k a)=.returned (.int k b):=by rw[c]
theorem aj{p:Prop}(a:p):Hid p:=a
theorem cB{w w1:World}(a:Below w.drew.heap.size w.drew w1):ag w w1:=⟨a.os,a.tape,a.output,a.size,a.block⟩
theorem am{B:Nat}{w w1:World}(a:Below B w w1):∀b o,b<B->w1.cell? ⟨b,o,none⟩=w.cell? ⟨b,o,none⟩:=λb o c=>a.cell (p:=⟨b,o,none⟩) c
def Tm:Nat->Type
 | 0=>Unit
 | n+1=>(Int×Int×ByteArray)×(Option Addr×Nat)×List (Tm n)
def dd:(n:Nat)->Tm n->Value
 | 0,_=> .nilIface
 | _+1,x=> .agg #[.int .i64 x.1.1,.int .i64 x.1.2.1,.string x.1.2.2,.slice x.2.1.1 x.2.2.length x.2.1.2]
def dy(w:World)(b o:Nat):(n:Nat)->Tm n->Prop
 | 0,_=>False
 | _+1,x=>w.cell? ⟨b,o,none⟩=some (.int .i64 x.1.1)/\w.cell? ⟨b,o+1,none⟩=some (.int .i64 x.1.2.1)/\
    w.cell? ⟨b,o+2,none⟩=some (.string x.1.2.2)/\w.cell? ⟨b,o+3,none⟩=some (.slice x.2.1.1 x.2.2.length x.2.1.2)
def dh(k:Int):Prop:=-9223372036854775808<=k/\k<=9223372036854775807
def In(B:Nat)(w:World):(n:Nat)->Tm n->Prop
 | 0,_=>False
 | n+1,x=>(dh x.1.1/\dh x.1.2.1/\x.1.2.2.size<=maxLen/\x.2.2.length<=x.2.1.2/\x.2.1.2<=maxLen)/\
    (x.2.2=[]\/∃b o,x.2.1.1=some ⟨b,o,none⟩/\b<B/\∀(i:Nat)(y:Tm n),x.2.2[i]?=some y->dy w b (o+i*4) n y/\In B w n y)
theorem dy.below{B:Nat}{w w':World}(a:Below B w w'){b o:Nat}(c:b<B):{n:Nat}->{x:Tm n}->dy w b o n x->dy w' b o n x
 | 0,_,k=>k
 | _+1,_,k=>by
  obtain⟨d,e,f,g⟩:=k;exact⟨(a.cell (p:=⟨b,o,none⟩) c).trans d,(a.cell (p:=⟨b,o+1,none⟩) c).trans e,(a.cell (p:=⟨b,o+2,none⟩) c).trans f,(a.cell (p:=⟨b,o+3,none⟩) c).trans g⟩
theorem In.below{B:Nat}{w w':World}(c:Below B w w'):{n:Nat}->{x:Tm n}->In B w n x->In B w' n x
 | 0,_,k=>k
 | _+1,_,k=>by
  obtain⟨g,a⟩:=k;refine⟨g,?_⟩;rcases a with a|⟨b,o,e,d,a⟩
  ·exact ae a
  ·exact af ⟨b,o,e,d,λi y f=>⟨(a i y f).1.below c d,(a i y f).2.below c⟩⟩
theorem In.mono{B C:Nat}(d:B<=C){w:World}:{n:Nat}->{x:Tm n}->In B w n x->In C w n x
 | 0,_,k=>k
 | _+1,_,k=>by
  obtain⟨f,a⟩:=k;refine⟨f,?_⟩;rcases a with a|⟨b,o,e,g,a⟩
  ·exact ae a
  ·exact af ⟨b,o,e,by omega,λi y c=>⟨(a i y c).1,(a i y c).2.mono d⟩⟩
def nj(x y:Int):Int:=if x<y then -1 else if y<x then 1 else 0
def vf(x y:ByteArray):Int:=if Op.bytesLess x.toList y.toList then -1 else if !Op.bytesLess x.toList y.toList && !(x.toList==y.toList)then 1 else 0
def oO{c d:Type}(f:c->d->Int):List c->List d->Int
 | a::p,b::q=>if f a b=0 then oO f p q else f a b
 | _,_=>0
def wb:(n:Nat)->Tm n->(m:Nat)->Tm m->Int
 | n+1,x,m+1,y=>
  if x.1.1=y.1.1 then
   if x.1.1=1\/x.1.1=3\/x.1.1=5 then nj x.1.2.1 y.1.2.1
   else if x.1.1=2 then vf x.1.2.2 y.1.2.2
   else if x.1.1=4 then
    if x.2.2.length=y.2.2.length then oO (λa b=>wb n a m b) x.2.2 y.2.2 else nj x.2.2.length y.2.2.length
   else 0
  else nj x.1.1 y.1.1
 | _,_,_,_=>0
theorem FH{c d:Type}(f:c->d->Int)(p:List c)(q:List d)(k:Nat)(a:c)(b:d)(j:p[k]?=some a)(l:q[k]?=some b):oO f (p.drop k) (q.drop k)=if f a b=0 then oO f (p.drop (k+1)) (q.drop (k+1))else f a b:=by
 obtain⟨h,e⟩:=aL.1 j;obtain⟨i,g⟩:=aL.1 l;rw[eP h,eP i,e,g];rfl
abbrev Nd:Type:=(Int×Int×ByteArray)×(Option Addr×Nat×Nat)
def ur(x:Nd):List Value:=[.int .i64 x.1.1,.int .i64 x.1.2.1,.string x.1.2.2,.slice x.2.1 x.2.2.1 x.2.2.2]
def ch(l:List Nd):List Value:=l.flatMap ur
def ar:(n:Nat)->Tm n->List Nd
 | 0,_=> [((0,0,.empty),(none,0,0))]
 | n+1,x=>(x.1,(x.2.1.1,x.2.2.length,x.2.1.2))::x.2.2.flatMap λy=>ar n y
def oT:(n:Nat)->Tm n->Int->List Int
 | 0,_,d=> [d]
 | n+1,x,d=>d::x.2.2.flatMap λy=>oT n y (d+1)
theorem zP{b d e:Type}(f:b->List d)(g:b->List e)(c:∀a,(f a).length=(g a).length)(l:List b):(l.flatMap f).length=(l.flatMap g).length:=by
 induction l with
 | nil=>rfl
 | cons a l ih=>simp only[bv,aY,ih,c]
theorem jE:(n:Nat)->(x:Tm n)->(d:Int)->(oT n x d).length=(ar n x).length
 | 0,_,_=>rfl
 | n+1,x,d=>by
  simp only[oT,ar,aV];rw[zP (λy=>oT n y (d+1)) (λy=>ar n y) (λy=>jE n y (d+1))]
theorem nw(l:List Nd):(ch l).length=l.length*4:=by
 induction l with
 | nil=>rfl
 | cons a l ih=>simp only[ch,bv,aY,aV]at ih ⊢;rw[ih];simp[ur];omega
theorem ut(l r:List Nd):ch (l++r)=ch l++ch r:=by simp[ch]
theorem sf(l:List Nd):∀b∈ch l,b.oneCell'=true:=by
 intro b a;simp only[ch,jd,ur]at a;obtain⟨c,_,a⟩:=a;simp at a;rcases a with rfl|rfl|rfl|rfl<;>rfl
theorem Ge{a e:Type}(f:a->List e)(l:List a)(k:Nat)(x:a)(c:l[k]?=some x):(l.take (k+1)).flatMap f=(l.take k).flatMap f++f x:=by
 obtain⟨d,b⟩:=aL.1 c;rw[oC d,b];simp
theorem En{a b:Type}(f:a->List b)(l:List a)(k:Nat):((l.take k).flatMap f).length<=(l.flatMap f).length:=by
 conv=>rhs;rw[<-jf k l]
 rw[jW,aY];omega
theorem dE{w w':World}{base e size:Nat}{v:Value}{n:Nat}{xs:List Value}(b:w.ownsRow base e size v n xs)(a:ag w w'):w'.ownsRow base e size v n xs:=
 b.kept (row:=none) ⟨a.os,a.tape,a.output,a.size,λk c _=>a.block k c⟩ (by cases v.ownBlock<;>simp)
theorem qE{w:World}{base b e size:Nat}{v:Value}{n:Nat}{xs:List Value}(f:w.ownsRow base e size v n xs)(k:b<=base):w.ownsRow b e size v n xs:=by
 obtain⟨g,a⟩:=f;refine⟨g,?_⟩;rcases a with a|⟨d,cap,c,i,l,h,j⟩
 ·exact ae a
 ·exact af ⟨d,cap,c,i,by omega,h,j⟩
theorem fR:(Tryz.prog.info? 30).map (λi=>(i.zero,i.size,i.bytes))=some (some (.agg #[.int .i64 0,.int .i64 0,.string .empty,.slice none 0 0]),4,56):=by kernel_rfl
theorem DY:(Tryz.prog.info? 3).map (λi=>(i.zero,i.size,i.bytes))=some (some (.int .i64 0),1,8):=by kernel_rfl
def pT(n lo a:Int):Bool:=decide (lo<=n) && decide (n<=a)
def xR(c:UInt8):Bool:=decide (97<=(c.toNat:Int)) && decide ((c.toNat:Int)<=122)
def fL(l:List UInt8):Bool:=l.all xR
def dC(s:ByteArray):Bool:=pT s.size 1 8 && fL s.data.toList
theorem bG{a b:Bool}(c:a=b):Ending.returned (.bool a)=.returned (.bool b):=by rw[c]
theorem rL(s:ByteArray)(k:Nat)(a:k<s.size):s.data.toList.take (k+1)=s.data.toList.take k++ [s[k]]:=by
 rw[oC (by simpa using a)];rfl
theorem uj(s:ByteArray)(k:Nat)(a:k<s.size):fL (s.data.toList.take (k+1))=(fL (s.data.toList.take k) && xR s[k]):=by
 rw[rL s k a];simp[fL]
def sz:(n:Nat)->Tm n->Int
 | 0,_=>0
 | n+1,x=>if x.1.1=4 then 1+(x.2.2.map λy=>1+sz n y).sum else 0
theorem ey:(n:Nat)->(x:Tm n)->0<=sz n x/\sz n x+1<=2*((ar n x).length:Int)
 | 0,_=>⟨by simp[sz],by simp[sz,ar]⟩
 | n+1,x=>by
  have key:∀l:List (Tm n),0<=(l.map λy=>1+sz n y).sum/\(l.map λy=>1+sz n y).sum<=2*((l.flatMap λy=>ar n y).length:Int):=by
   intro l
   induction l with
   | nil=>exact⟨by simp,by simp⟩
   | cons y l ih=>
    have b:=ey n y;simp only[aH,bq,bv,aY];exact⟨by omega,by omega⟩
  have k:=key x.2.2;simp only[sz,ar,aV];by_cases a:x.1.1=4
  ·rw[if_pos a];exact⟨by omega,by omega⟩
  ·rw[if_neg a];exact⟨by omega,by omega⟩
def cm(x:Nd):Bool:=
 (if x.1.1=1 then x.1.2.2.toList.isEmpty && pT x.1.2.1 (-1099511627776) 1099511627776
  else if x.1.1=2 then dC x.1.2.2 && x.1.2.1==0
  else if x.1.1=3 then x.1.2.2.toList.isEmpty && pT x.1.2.1 1 99
  else if x.1.1=4 then x.1.2.2.toList.isEmpty && x.1.2.1==0 && decide ((x.2.2.1:Int)<=8)
  else if x.1.1=5 then x.1.2.2.toList.isEmpty && pT x.1.2.1 0 3
  else if x.1.1=6 then x.1.2.2.toList.isEmpty && x.1.2.1==0
  else false) && (x.1.1==4 || !decide ((0:Int)<(x.2.2.1:Int)))
def mw(x:Nd)(d m:Int):Int:=if x.1.1=4/\m<d+1 then d+1 else m
def BU(a:Int):List Nd->List Int->Int->Int
 | x::l,d::ds,m=>if cm x then BU a l ds (mw x d m)else 5
 | _,_,m=>if 12<m\/200<a then 2 else 0
def bm(n:Nat)(x:Tm n):Int:=BU (sz n x) (ar n x) (oT n x 0) 0
theorem io(l:List Nd)(k:Nat)(x:Nd)(b:l[k]?=some x)(j:Nat)(e:j<4):(ch l)[k*4+j]?=(ur x)[j]? :=by
 induction l generalizing k with
 | nil=>simp at b
 | cons a l ih=>
  have c:ch (a::l)=ur a++ch l:=rfl;have d:(ur a).length=4:=rfl;rw[c];cases k with
  | zero=>
   have:a=x:=by simpa using b
   subst this;rw[de (by omega)];simp
  | succ k=>
   rw[dZ (by omega),d,<-ih k (by simpa using b)];congr 1;omega
theorem eM(g j:Nat):(⟨g,0,none⟩:Addr).add j=⟨g,j,none⟩:=by unfold Addr.add;split<;>simp_all
theorem CJ{w:World}{base g c L:Nat}{l:List Nd}(d:w.ownsRow base 30 4 (.slice (some ⟨g,0,none⟩) L c) L (ch l))(k:Nat)(x:Nd)(b:l[k]?=some x):w.cell? ⟨g,k*4,none⟩=some (.int .i64 x.1.1)/\w.cell? ⟨g,k*4+1,none⟩=some (.int .i64 x.1.2.1)/\w.cell? ⟨g,k*4+2,none⟩=some (.string x.1.2.2)/\w.cell? ⟨g,k*4+3,none⟩=some (.slice x.2.1 x.2.2.1 x.2.2.2):=by
 have a:=d.cells (g:=g) rfl;refine⟨?_,?_,?_,?_⟩
 ·have:=a (k*4+0) (.int .i64 x.1.1) (by rw[io l k x b 0 (by omega)];rfl);rw[eM]at this;exact this
 ·have:=a (k*4+1) (.int .i64 x.1.2.1) (by rw[io l k x b 1 (by omega)];rfl);rw[eM]at this;exact this
 ·have:=a (k*4+2) (.string x.1.2.2) (by rw[io l k x b 2 (by omega)];rfl);rw[eM]at this;exact this
 ·have:=a (k*4+3) (.slice x.2.1 x.2.2.1 x.2.2.2) (by rw[io l k x b 3 (by omega)];rfl);rw[eM]at this;exact this
end Go.Proofs.YtckamaoibonjcaaGreat
