/- What is proved here: plain facts and contracts that the claimed theorem stands on. No condition but those that each names. -/
import Derived.Test.YtmbjgiaebneodaaGreatRows
import Derived.WalkKit
import Derived.WalkSpells
import Derived.WalkLawsBesides
import Derived.Deep.AppendLies
namespace Go.Proofs.YtmbjgiaebneodaaGreat
open Go.RowKit
abbrev ae:= @Or.inl
abbrev af:= @Or.inr
abbrev ag:= @Nat.le_refl
abbrev ah:= @Below.refl
abbrev ao:= @bodyPost_ret
abbrev aq:= @Option.some.inj
abbrev au:= @Nat.le_trans
abbrev aE:= @Array.getElem?_eq_some_iff
abbrev ax:= @List.mem_of_getElem?
abbrev ay:= @heap_alloc_new
abbrev az:= @List.getElem?_eq_getElem
abbrev aB:= @Bool.and_eq_true
abbrev aD:= @Nat.zero_le
abbrev aJ:= @List.map_cons
abbrev aK:= @List.getElem?_eq_some_iff
abbrev aM:= @Nat.lt_of_lt_of_le
abbrev aW:= @List.length_append
abbrev aZ:= @List.length_cons
abbrev bj:= @List.flatMap_cons
abbrev bk:= @List.take_of_length_le
abbrev br:= @List.sum_cons
abbrev bz:= @Option.bind_eq_some_iff
abbrev bF:= @List.mem_cons
abbrev bK:= @Array.getElem?_modify
abbrev bL:= @List.eq_nil_of_length_eq_zero
abbrev bM:= @List.setIfInBounds_toArray
abbrev bN:= @info_parts
abbrev bP:= @List.map_nil
abbrev bT:= @List.all_eq_true
abbrev bU:= @List.mem_cons_of_mem
abbrev bV:= @decide_eq_true_eq
abbrev bW:= @run_underlying
abbrev cr:= @beq_iff_eq
abbrev cE:= @List.getElem?_cons_zero
abbrev cF:= @List.getElem?_of_mem
abbrev cG:= @Option.map_eq_some_iff
abbrev cP:= @List.getElem?_cons_succ
abbrev cQ:= @Nat.zero_add
abbrev cR:= @if_true
abbrev cV:= @List.getElem?_append_left
abbrev cW:= @List.set_cons_succ
abbrev cX:= @List.set_cons_zero
abbrev df:= @List.getElem?_map
abbrev di:= @Nat.le_of_eq
abbrev dj:= @World.grownBy_alloc
abbrev dm:= @ByteArray.toList_eq
abbrev dn:= @List.length_take
abbrev dp:= @List.mem_append
abbrev dq:= @List.not_mem_nil
abbrev dr:= @Option.bind_some
abbrev dt:= @or_false
abbrev dy:= @List.mem_map
abbrev dz:= @List.take_add_one
abbrev dL:= @List.append_nil
abbrev dM:= @List.getElem?_append_right
abbrev dN:= @List.length_map
abbrev dO:= @bodyPost_end
abbrev dZ:= @Bool.true_and
abbrev ed:= @List.mem_singleton
abbrev ee:= @World.ownsRow_nil
abbrev ez:= @Addr.add_lit
abbrev eA:= @List.drop_eq_getElem_cons
abbrev eC:= @List.length_drop
abbrev eD:= @Nat.add_sub_cancel
abbrev eE:= @of_decide_eq_true
abbrev eK:= @List.getElem?_eq_none
abbrev eL:= @List.nodup_append
abbrev fi:= @List.size_toArray
abbrev fj:= @Nat.le_succ
abbrev fk:= @Prod.mk.injEq
abbrev fB:= @List.cons_append
abbrev fC:= @List.drop_eq_nil_of_le
abbrev fD:= @List.prefix_refl
abbrev gn:= @Array.length_toList
abbrev gq:= @Bool.and_self
abbrev gt:= @Bool.or_eq_true
abbrev gu:= @List.map_append
abbrev gw:= @List.set_append_right
abbrev gz:= @List.take_append_of_le_length
abbrev gA:= @Option.isSome_iff_exists
abbrev gB:= @Prod.ext
abbrev gC:= @WalkArith.wf_i64
abbrev gD:= @beq_eq_false_iff_ne
abbrev iE:= @List.find?_cons
abbrev iF:= @List.foldl_cons
abbrev iG:= @List.getElem_mem
abbrev iH:= @List.mem_flatMap
abbrev iI:= @List.sum_nil
abbrev iJ:= @Nat.add_zero
abbrev iK:= @Nat.sub_self
abbrev iL:= @World.cell?_setCell_same
abbrev iN:= @World.size_alloc
abbrev iO:= @decide_eq_true
abbrev jZ:= @DataW.trod_int
abbrev j0:= @DataW.trod_struct
abbrev j8:= @Int.le_refl
abbrev gY:= @List.append_assoc
abbrev gZ:= @List.getElem?_take
abbrev g8:= @List.map_map
abbrev g9:= @Nat.le_add_right
abbrev hH:= @Nat.succ_mul
abbrev hU:= @World.frozen?_of_block
abbrev ia:= @World.grownBy.refl
abbrev jz:= @Array.getElem?_toList
abbrev jA:= @List.flatMap_append
abbrev jB:= @List.getElem?_drop
abbrev jC:= @List.take_append_drop
abbrev jD:= @MapKept.run_getObj_map
abbrev jE:= @Option.isNone_iff_eq_none
abbrev jF:= @Option.isSome_some
abbrev jG:= @Option.not_isSome
abbrev jH:= @Option.some.injEq
abbrev jI:= @wpList_make_full
abbrev kZ:= @Go.WideMaps.keyOf_string_mk
abbrev ld:= @List.foldl_append
abbrev lf:= @List.length_nil
abbrev lg:= @List.map_congr_left
abbrev lh:= @List.map_toArray
abbrev lj:= @List.mem_cons_self
abbrev lk:= @List.nodup_cons
abbrev lp:= @List.replicate_zero
abbrev lq:= @Option.isSome_none
abbrev lu:= @Result.andThen_ok
abbrev lw:= @World.block_lt_of_cell?
abbrev nB:= @Bool.false_eq_true
abbrev nC:= @Bool.false_ne_true
abbrev nD:= @Bool.not_eq_true'
abbrev nE:= @DataW.trod_string
abbrev nF:= @List.drop_append_of_le_length
abbrev nG:= @List.find?_eq_none
abbrev nH:= @List.getD_eq_getElem?_getD
abbrev nI:= @List.prefix_append
abbrev nJ:= @List.take_succ_eq_append_getElem
abbrev nK:= @List.toList_toArray
abbrev nL:= @UInt8.lt_iff_toNat_lt
abbrev nM:= @World.cells?_some
abbrev nN:= @World.ownsMap_made
abbrev nO:= @World.ownsRow.kept
abbrev nP:= @run_storeCells_at
abbrev qL:= @ChangeMaps.heap_setBlock_same
abbrev qM:= @List.eraseIdx_eq_take_drop_succ
abbrev qN:= @List.findIdx?_eq_none_iff
abbrev qO:= @List.getElem?_take_of_lt
abbrev qP:= @List.map_eq_singleton_iff
theorem ie{k:IntKind}{a b:Int}(c:a=b):Ending.returned (.int k a)=.returned (.int k b):=by rw[c]
theorem ai{p:Prop}(a:p):Hid p:=a
theorem ci{w w1:World}(a:Below w.drew.heap.size w.drew w1):Below w.heap.size w w1:=⟨a.os,a.tape,a.output,a.size,a.block⟩
theorem aj{B:Nat}{w w1:World}(a:Below B w w1):∀b o,b<B->w1.cell? ⟨b,o,none⟩=w.cell? ⟨b,o,none⟩:=λb o c=>a.cell (p:=⟨b,o,none⟩) c
def Tm:Nat->Type
 | 0=>Unit
 | n+1=>(Int×Int×ByteArray)×(Option Addr×Nat)×List (Tm n)
def de:(n:Nat)->Tm n->Value
 | 0,_=> .nilIface
 | _+1,x=> .agg #[.int .i64 x.1.1,.int .i64 x.1.2.1,.string x.1.2.2,.slice x.2.1.1 x.2.2.length x.2.1.2]
def dk(w:World)(b o:Nat):(n:Nat)->Tm n->Prop
 | 0,_=>False
 | _+1,x=>w.cell? ⟨b,o,none⟩=some (.int .i64 x.1.1)/\w.cell? ⟨b,o+1,none⟩=some (.int .i64 x.1.2.1)/\
    w.cell? ⟨b,o+2,none⟩=some (.string x.1.2.2)/\w.cell? ⟨b,o+3,none⟩=some (.slice x.2.1.1 x.2.2.length x.2.1.2)
def cY(k:Int):Prop:=-9223372036854775808<=k/\k<=9223372036854775807
def In(B:Nat)(w:World):(n:Nat)->Tm n->Prop
 | 0,_=>False
 | n+1,x=>(cY x.1.1/\cY x.1.2.1/\x.1.2.2.size<=maxLen/\x.2.2.length<=x.2.1.2/\x.2.1.2<=maxLen)/\
    (x.2.2=[]\/∃b o,x.2.1.1=some ⟨b,o,none⟩/\b<B/\∀(i:Nat)(y:Tm n),x.2.2[i]?=some y->dk w b (o+i*4) n y/\In B w n y)
theorem dk.below{B:Nat}{w w':World}(a:Below B w w'){b o:Nat}(c:b<B):{n:Nat}->{x:Tm n}->dk w b o n x->dk w' b o n x
 | 0,_,k=>k
 | _+1,_,k=>by
  obtain⟨d,e,f,g⟩:=k;exact⟨(a.cell (p:=⟨b,o,none⟩) c).trans d,(a.cell (p:=⟨b,o+1,none⟩) c).trans e,(a.cell (p:=⟨b,o+2,none⟩) c).trans f,(a.cell (p:=⟨b,o+3,none⟩) c).trans g⟩
theorem In.below{B:Nat}{w w':World}(c:Below B w w'):{n:Nat}->{x:Tm n}->In B w n x->In B w' n x
 | 0,_,k=>k
 | _+1,_,k=>by
  obtain⟨g,a⟩:=k;refine⟨g,?_⟩;rcases a with a|⟨b,o,e,d,a⟩
  ·exact ae a
  ·exact af ⟨b,o,e,d,λi y f=>⟨(a i y f).1.below c d,(a i y f).2.below c⟩⟩
theorem In.mono{B C:Nat}(d:B<=C){w:World}:{n:Nat}->{x:Tm n}->In B w n x->In C w n x
 | 0,_,k=>k
 | _+1,_,k=>by
  obtain⟨f,a⟩:=k;refine⟨f,?_⟩;rcases a with a|⟨b,o,e,g,a⟩
  ·exact ae a
  ·exact af ⟨b,o,e,by omega,λi y c=>⟨(a i y c).1,(a i y c).2.mono d⟩⟩
def mx(x y:Int):Int:=if x<y then -1 else if y<x then 1 else 0
def tZ(x y:ByteArray):Int:=if Op.bytesLess x.toList y.toList then -1 else if !Op.bytesLess x.toList y.toList && !(x.toList==y.toList)then 1 else 0
def nU{c d:Type}(f:c->d->Int):List c->List d->Int
 | a::p,b::q=>if f a b=0 then nU f p q else f a b
 | _,_=>0
def uT:(n:Nat)->Tm n->(m:Nat)->Tm m->Int
 | n+1,x,m+1,y=>
  if x.1.1=y.1.1 then
   if x.1.1=1\/x.1.1=3\/x.1.1=5 then mx x.1.2.1 y.1.2.1
   else if x.1.1=2 then tZ x.1.2.2 y.1.2.2
   else if x.1.1=4 then
    if x.2.2.length=y.2.2.length then nU (λa b=>uT n a m b) x.2.2 y.2.2 else mx x.2.2.length y.2.2.length
   else 0
  else mx x.1.1 y.1.1
 | _,_,_,_=>0
theorem DG{c d:Type}(f:c->d->Int)(p:List c)(q:List d)(k:Nat)(a:c)(b:d)(j:p[k]?=some a)(l:q[k]?=some b):nU f (p.drop k) (q.drop k)=if f a b=0 then nU f (p.drop (k+1)) (q.drop (k+1))else f a b:=by
 obtain⟨h,e⟩:=aK.1 j;obtain⟨i,g⟩:=aK.1 l;rw[eA h,eA i,e,g];rfl
abbrev Nd:Type:=(Int×Int×ByteArray)×(Option Addr×Nat×Nat)
def uQ(x:Nd):List Value:=[.int .i64 x.1.1,.int .i64 x.1.2.1,.string x.1.2.2,.slice x.2.1 x.2.2.1 x.2.2.2]
def cK(l:List Nd):List Value:=l.flatMap uQ
def ap:(n:Nat)->Tm n->List Nd
 | 0,_=> [((0,0,.empty),(none,0,0))]
 | n+1,x=>(x.1,(x.2.1.1,x.2.2.length,x.2.1.2))::x.2.2.flatMap λy=>ap n y
def my:(n:Nat)->Tm n->Int->List Int
 | 0,_,d=> [d]
 | n+1,x,d=>d::x.2.2.flatMap λy=>my n y (d+1)
theorem yd{b d e:Type}(f:b->List d)(g:b->List e)(c:∀a,(f a).length=(g a).length)(l:List b):(l.flatMap f).length=(l.flatMap g).length:=by
 induction l with
 | nil=>rfl
 | cons a l ih=>simp only[bj,aW,ih,c]
theorem ji:(n:Nat)->(x:Tm n)->(d:Int)->(my n x d).length=(ap n x).length
 | 0,_,_=>rfl
 | n+1,x,d=>by
  simp only[my,ap,aZ];rw[yd (λy=>my n y (d+1)) (λy=>ap n y) (λy=>ji n y (d+1))]
theorem mI(l:List Nd):(cK l).length=l.length*4:=by
 induction l with
 | nil=>rfl
 | cons a l ih=>simp only[cK,bj,aW,aZ]at ih ⊢;rw[ih];simp[uQ];omega
theorem tg(l r:List Nd):cK (l++r)=cK l++cK r:=by simp[cK]
theorem re(l:List Nd):∀u∈cK l,u.oneCell'=true:=by
 intro u a;simp only[cK,iH,uQ]at a;obtain⟨b,_,a⟩:=a;simp at a;rcases a with rfl|rfl|rfl|rfl<;>rfl
theorem Ef{a e:Type}(f:a->List e)(l:List a)(k:Nat)(x:a)(c:l[k]?=some x):(l.take (k+1)).flatMap f=(l.take k).flatMap f++f x:=by
 obtain⟨d,b⟩:=aK.1 c;rw[nJ d,b];simp
theorem Cw{a b:Type}(f:a->List b)(l:List a)(k:Nat):((l.take k).flatMap f).length<=(l.flatMap f).length:=by
 conv=>rhs;rw[<-jC k l]
 rw[jA,aW];omega
theorem dC{w w':World}{base e size:Nat}{v:Value}{n:Nat}{xs:List Value}(b:w.ownsRow base e size v n xs)(a:Below w.heap.size w w'):w'.ownsRow base e size v n xs:=
 b.kept (row:=none) ⟨a.os,a.tape,a.output,a.size,λk c _=>a.block k c⟩ (by cases v.ownBlock<;>simp)
theorem pL{w:World}{base b e size:Nat}{v:Value}{n:Nat}{xs:List Value}(f:w.ownsRow base e size v n xs)(k:b<=base):w.ownsRow b e size v n xs:=by
 obtain⟨g,a⟩:=f;refine⟨g,?_⟩;rcases a with a|⟨d,cap,c,i,l,h,j⟩
 ·exact ae a
 ·exact af ⟨d,cap,c,i,by omega,h,j⟩
theorem gg:(Tryz.prog.info? 30).map (λi=>(i.zero,i.size,i.bytes))=some (some (.agg #[.int .i64 0,.int .i64 0,.string .empty,.slice none 0 0]),4,56):=by kernel_rfl
theorem Cd:(Tryz.prog.info? 3).map (λi=>(i.zero,i.size,i.bytes))=some (some (.int .i64 0),1,8):=by kernel_rfl
def kC(n lo a:Int):Bool:=decide (lo<=n) && decide (n<=a)
def nS(c:UInt8):Bool:=decide (97<=(c.toNat:Int)) && decide ((c.toNat:Int)<=122)
def eX(l:List UInt8):Bool:=l.all nS
def ch(s:ByteArray):Bool:=kC s.size 1 8 && eX s.data.toList
theorem bE{a b:Bool}(c:a=b):Ending.returned (.bool a)=.returned (.bool b):=by rw[c]
theorem Eh(s:ByteArray)(k:Nat)(a:k<s.size):s.data.toList.take (k+1)=s.data.toList.take k++ [s[k]]:=by
 rw[nJ (by simpa using a)];rfl
theorem AO(s:ByteArray)(k:Nat)(a:k<s.size):eX (s.data.toList.take (k+1))=(eX (s.data.toList.take k) && nS s[k]):=by
 rw[Eh s k a];simp[eX]
def sz:(n:Nat)->Tm n->Int
 | 0,_=>0
 | n+1,x=>if x.1.1=4 then 1+(x.2.2.map λy=>1+sz n y).sum else 0
theorem ex:(n:Nat)->(x:Tm n)->0<=sz n x/\sz n x+1<=2*((ap n x).length:Int)
 | 0,_=>⟨by simp[sz],by simp[sz,ap]⟩
 | n+1,x=>by
  have key:∀l:List (Tm n),0<=(l.map λy=>1+sz n y).sum/\(l.map λy=>1+sz n y).sum<=2*((l.flatMap λy=>ap n y).length:Int):=by
   intro l
   induction l with
   | nil=>exact⟨by simp,by simp⟩
   | cons y l ih=>
    have b:=ex n y;simp only[aJ,br,bj,aW];exact⟨by omega,by omega⟩
  have k:=key x.2.2;simp only[sz,ap,aZ];by_cases a:x.1.1=4
  ·rw[if_pos a];exact⟨by omega,by omega⟩
  ·rw[if_neg a];exact⟨by omega,by omega⟩
def bQ(x:Nd):Bool:=
 (if x.1.1=1 then x.1.2.2.toList.isEmpty && kC x.1.2.1 (-1099511627776) 1099511627776
  else if x.1.1=2 then ch x.1.2.2 && x.1.2.1==0
  else if x.1.1=3 then x.1.2.2.toList.isEmpty && kC x.1.2.1 1 99
  else if x.1.1=4 then x.1.2.2.toList.isEmpty && x.1.2.1==0 && decide ((x.2.2.1:Int)<=8)
  else if x.1.1=5 then x.1.2.2.toList.isEmpty && kC x.1.2.1 0 3
  else if x.1.1=6 then x.1.2.2.toList.isEmpty && x.1.2.1==0
  else false) && (x.1.1==4 || !decide ((0:Int)<(x.2.2.1:Int)))
def kB(x:Nd)(d m:Int):Int:=if x.1.1=4/\m<d+1 then d+1 else m
def xH(a:Int):List Nd->List Int->Int->Int
 | x::l,d::ds,m=>if bQ x then xH a l ds (kB x d m)else 5
 | _,_,m=>if 12<m\/200<a then 2 else 0
def bv(n:Nat)(x:Tm n):Int:=xH (sz n x) (ap n x) (my n x 0) 0
theorem gQ(l:List Nd)(k:Nat)(x:Nd)(b:l[k]?=some x)(j:Nat)(e:j<4):(cK l)[k*4+j]?=(uQ x)[j]? :=by
 induction l generalizing k with
 | nil=>simp at b
 | cons a l ih=>
  have c:cK (a::l)=uQ a++cK l:=rfl;have d:(uQ a).length=4:=rfl;rw[c];cases k with
  | zero=>
   have:a=x:=by simpa using b
   subst this;rw[cV (by omega)];simp
  | succ k=>
   rw[dM (by omega),d,<-ih k (by simpa using b)];congr 1;omega
theorem eV(g j:Nat):(⟨g,0,none⟩:Addr).add j=⟨g,j,none⟩:=by unfold Addr.add;split<;>simp_all
theorem FV{w:World}{base g c L:Nat}{l:List Nd}(d:w.ownsRow base 30 4 (.slice (some ⟨g,0,none⟩) L c) L (cK l))(k:Nat)(x:Nd)(b:l[k]?=some x):w.cell? ⟨g,k*4,none⟩=some (.int .i64 x.1.1)/\w.cell? ⟨g,k*4+1,none⟩=some (.int .i64 x.1.2.1)/\w.cell? ⟨g,k*4+2,none⟩=some (.string x.1.2.2)/\w.cell? ⟨g,k*4+3,none⟩=some (.slice x.2.1 x.2.2.1 x.2.2.2):=by
 have a:=d.cells (g:=g) rfl;refine⟨?_,?_,?_,?_⟩
 ·have:=a (k*4+0) (.int .i64 x.1.1) (by rw[gQ l k x b 0 (by omega)];rfl);rw[eV]at this;exact this
 ·have:=a (k*4+1) (.int .i64 x.1.2.1) (by rw[gQ l k x b 1 (by omega)];rfl);rw[eV]at this;exact this
 ·have:=a (k*4+2) (.string x.1.2.2) (by rw[gQ l k x b 2 (by omega)];rfl);rw[eV]at this;exact this
 ·have:=a (k*4+3) (.slice x.2.1 x.2.2.1 x.2.2.2) (by rw[gQ l k x b 3 (by omega)];rfl);rw[eV]at this;exact this
end Go.Proofs.YtmbjgiaebneodaaGreat
