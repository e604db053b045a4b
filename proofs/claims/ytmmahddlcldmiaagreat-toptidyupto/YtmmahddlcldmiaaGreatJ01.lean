/- Proved here: plain facts and contracts. No condition but what each names. -/
import Derived.Test.YtmmahddlcldmiaaGreatRows
import Derived.WalkKit
import Derived.WalkSpells
import Derived.WalkLawsBesides
import Derived.Deep.AppendLies
namespace Go.Proofs.YtmmahddlcldmiaaGreat
open Go.RowKit
abbrev ai:= @Or.inl
abbrev aj:= @Or.inr
abbrev ao:= @Nat.le_refl
abbrev aq:= @Below.refl
abbrev az:= @bodyPost_ret
abbrev aA:= @Option.some.inj
abbrev aD:= @Nat.le_trans
abbrev aJ:= @Array.getElem?_eq_some_iff
abbrev aF:= @heap_alloc_new
abbrev aK:= @Bool.and_eq_true
abbrev aL:= @Nat.zero_le
abbrev aM:= @List.getElem?_eq_getElem
abbrev aN:= @List.mem_of_getElem?
abbrev aU:= @List.map_cons
abbrev aW:= @Nat.lt_of_lt_of_le
abbrev aX:= @List.getElem?_eq_some_iff
abbrev br:= @List.length_cons
abbrev bw:= @List.length_append
abbrev bC:= @Option.bind_eq_some_iff
abbrev bF:= @List.take_of_length_le
abbrev bJ:= @List.eq_nil_of_length_eq_zero
abbrev bK:= @List.flatMap_cons
abbrev bN:= @List.sum_cons
abbrev bO:= @Array.getElem?_modify
abbrev bR:= @List.mem_cons_of_mem
abbrev bW:= @info_parts
abbrev cg:= @List.setIfInBounds_toArray
abbrev ci:= @List.map_nil
abbrev cm:= @List.mem_map
abbrev co:= @decide_eq_true_eq
abbrev cu:= @List.all_eq_true
abbrev cv:= @List.mem_cons
abbrev cw:= @Option.map_eq_some_iff
abbrev cC:= @run_underlying
abbrev cE:= @ByteArray.toList_eq
abbrev cF:= @beq_iff_eq
abbrev cW:= @List.getElem?_cons_zero
abbrev cX:= @World.grownBy_alloc
abbrev cY:= @if_true
abbrev dd:= @List.getElem?_of_mem
abbrev de:= @Nat.zero_add
abbrev dm:= @List.getElem?_cons_succ
abbrev dn:= @bodyPost_end
abbrev dr:= @List.mem_append
abbrev dt:= @List.set_cons_succ
abbrev du:= @List.set_cons_zero
abbrev dx:= @List.getElem?_append_left
abbrev dy:= @List.getElem?_map
abbrev dz:= @List.take_add_one
abbrev dF:= @Nat.le_of_eq
abbrev dG:= @Option.bind_some
abbrev dL:= @List.length_take
abbrev dS:= @List.mem_singleton
abbrev dT:= @List.size_toArray
abbrev en:= @Addr.add_lit
abbrev eq:= @List.getElem?_append_right
abbrev eu:= @List.length_map
abbrev ew:= @Prod.mk.injEq
abbrev eJ:= @Bool.true_and
abbrev eK:= @List.append_nil
abbrev eL:= @List.cons_append
abbrev eM:= @List.drop_eq_getElem_cons
abbrev eN:= @List.getElem?_eq_none
abbrev eO:= @Nat.add_sub_cancel
abbrev eP:= @World.ownsRow_nil
abbrev eQ:= @of_decide_eq_true
abbrev fi:= @Below.heap_setCell
abbrev fj:= @List.length_drop
abbrev fz:= @List.nodup_append
abbrev fA:= @Option.isSome_iff_exists
abbrev fC:= @Prod.ext
abbrev fD:= @World.block_lt_of_cell?
abbrev fX:= @Nat.le_succ
abbrev gC:= @List.drop_eq_nil_of_le
abbrev gD:= @List.foldl_cons
abbrev gE:= @List.map_map
abbrev gF:= @List.not_mem_nil
abbrev gG:= @List.prefix_refl
abbrev gH:= @Nat.add_zero
abbrev gI:= @World.grownBy.refl
abbrev gJ:= @or_false
abbrev iz:= @Array.length_toList
abbrev iA:= @Bool.and_self
abbrev iB:= @Bool.or_eq_true
abbrev iC:= @List.length_nil
abbrev iD:= @List.map_append
abbrev iE:= @List.set_append_right
abbrev iF:= @WalkArith.wf_i64
abbrev iG:= @World.size_alloc
abbrev iH:= @beq_eq_false_iff_ne
abbrev iI:= @rounds_succ
abbrev jK:= @DataW.trod_int
abbrev jL:= @List.find?_cons
abbrev jM:= @List.getElem_mem
abbrev jN:= @List.mem_flatMap
abbrev jO:= @List.nil_append
abbrev gY:= @List.sum_nil
abbrev gZ:= @List.take_append_drop
abbrev g8:= @List.take_append_of_le_length
abbrev g9:= @Nat.le_add_right
abbrev hU:= @Nat.sub_self
abbrev ic:= @World.cell?_setCell_same
abbrev ie:= @decide_eq_true
abbrev jl:= @DataW.trod_struct
abbrev jm:= @Int.le_refl
abbrev jn:= @List.all_cons
abbrev jo:= @List.foldl_append
abbrev jp:= @List.getElem?_take
abbrev jq:= @List.map_congr_left
abbrev jr:= @Option.some.injEq
abbrev js:= @World.frozen?_of_block
abbrev kL:= @Bool.not_eq_true'
abbrev kM:= @List.all_append
abbrev kN:= @List.cons.injEq
abbrev kO:= @List.flatMap_append
abbrev kP:= @List.getElem?_drop
abbrev kQ:= @List.mem_map_of_mem
abbrev kR:= @MapKept.run_getObj_map
abbrev kS:= @Option.isNone_iff_eq_none
abbrev kT:= @Option.not_isSome
abbrev kU:= @Result.andThen_ok
abbrev kV:= @Sem.run_bind
abbrev kX:= @callsIn_wide
abbrev kY:= @wpList_make_full
abbrev kZ:= @wp_loop_rounds
abbrev mT:= @Array.getElem?_toList
abbrev mU:= @Go.WideMaps.keyOf_string_mk
abbrev mV:= @List.append_assoc
abbrev mW:= @List.getD_eq_getElem?_getD
abbrev mX:= @List.map_toArray
abbrev mY:= @List.mem_cons_self
abbrev mZ:= @List.nodup_cons
abbrev nb:= @List.replicate_zero
abbrev nd:= @List.take_zero
abbrev ng:= @Option.isSome_none
abbrev nh:= @Option.isSome_some
abbrev ni:= @Option.map_some
abbrev nj:= @World.cells?_some
abbrev pn:= @Array.replicate_succ
abbrev pq:= @Array.replicate_zero
abbrev pr:= @Bool.false_eq_true
abbrev pt:= @DataW.trod_string
abbrev pu:= @List.append_toArray
abbrev pw:= @List.drop_append_of_le_length
abbrev px:= @List.drop_of_length_le
abbrev py:= @List.find?_eq_none
abbrev pA:= @List.findIdx?_eq_none_iff
abbrev pB:= @List.prefix_append
abbrev pC:= @List.push_toArray
abbrev pD:= @List.take_succ_eq_append_getElem
abbrev pE:= @List.toList_toArray
abbrev pF:= @UInt8.lt_iff_toNat_lt
abbrev pG:= @World.ownsMap_made
abbrev pH:= @World.ownsRow.kept
abbrev pI:= @run_storeCells_at
abbrev sV:= @ChangeMaps.heap_setBlock_same
abbrev sW:= @List.eraseIdx_eq_take_drop_succ
abbrev sX:= @List.getElem?_take_of_lt
abbrev sY:= @List.mem_or_eq_of_mem_set
abbrev ab(x:Int):Value:=.int .i64 x
abbrev af(s:ByteArray):Value:=.string s
abbrev ae(a:Option Addr)(l c:Nat):Value:=.slice a l c
abbrev aH(b:Nat):Value:=.pointer (some ⟨b,0,none⟩)
abbrev ak(w w':World):Prop:=Below w.heap.size w w'
abbrev am:=Calls Tryz.prog
abbrev ap:=ByteArray
abbrev ag:=World
abbrev av:=Value
abbrev aw:=Option Addr
abbrev aR:=Nat->Prop
theorem ju{k:IntKind}{a b:Int}(c:a=b):Ending.returned (.int k a)=.returned (.int k b):=by rw[c]
theorem au{p:Prop}(a:p):Hid p:=a
variable{xs:List av}{base e n size:Nat}{c:Type}{w w1:ag}{v:av}
theorem cR(a:Below w.drew.heap.size w.drew w1):ak w w1:=⟨a.os,a.tape,a.output,a.size,a.block⟩
theorem ax{B:Nat}(a:Below B w w1):∀b o,b<B->w1.cell? ⟨b,o,none⟩=w.cell? ⟨b,o,none⟩:=λb o c=>a.cell (p:=⟨b,o,none⟩) c
def Tm:Nat->Type
 | 0=>Unit
 | n+1=>(Int×Int×ap)×(aw×Nat)×List (Tm n)
def dw:(n:Nat)->Tm n->av
 | 0,_=> .nilIface
 | _+1,x=> .agg #[ab x.1.1,ab x.1.2.1,af x.1.2.2,ae x.2.1.1 x.2.2.length x.2.1.2]
def dH(w:ag)(b o:Nat):(n:Nat)->Tm n->Prop
 | 0,_=>False
 | _+1,x=>w.cell? ⟨b,o,none⟩=some (ab x.1.1)/\w.cell? ⟨b,o+1,none⟩=some (ab x.1.2.1)/\
    w.cell? ⟨b,o+2,none⟩=some (af x.1.2.2)/\w.cell? ⟨b,o+3,none⟩=some (ae x.2.1.1 x.2.2.length x.2.1.2)
def dC(k:Int):Prop:=-9223372036854775808<=k/\k<=9223372036854775807
def In(B:Nat)(w:ag):(n:Nat)->Tm n->Prop
 | 0,_=>False
 | n+1,x=>(dC x.1.1/\dC x.1.2.1/\x.1.2.2.size<=maxLen/\x.2.2.length<=x.2.1.2/\x.2.1.2<=maxLen)/\
    (x.2.2=[]\/∃b o,x.2.1.1=some ⟨b,o,none⟩/\b<B/\∀(i:Nat)(y:Tm n),x.2.2[i]?=some y->dH w b (o+i*4) n y/\In B w n y)
theorem dH.below{B:Nat}{w w':ag}(a:Below B w w'){b o:Nat}(c:b<B):{n:Nat}->{x:Tm n}->dH w b o n x->dH w' b o n x
 | 0,_,k=>k
 | _+1,_,k=>by
  obtain⟨d,e,f,g⟩:=k;exact⟨(a.cell (p:=⟨b,o,none⟩) c).trans d,(a.cell (p:=⟨b,o+1,none⟩) c).trans e,(a.cell (p:=⟨b,o+2,none⟩) c).trans f,(a.cell (p:=⟨b,o+3,none⟩) c).trans g⟩
theorem In.below{B:Nat}{w w':ag}(c:Below B w w'):{n:Nat}->{x:Tm n}->In B w n x->In B w' n x
 | 0,_,k=>k
 | _+1,_,k=>by
  obtain⟨g,a⟩:=k;refine⟨g,?_⟩;rcases a with a|⟨b,o,e,d,a⟩
  ·exact ai a
  ·exact aj ⟨b,o,e,d,λi y f=>⟨(a i y f).1.below c d,(a i y f).2.below c⟩⟩
theorem In.mono{B C:Nat}(d:B<=C){w:ag}:{n:Nat}->{x:Tm n}->In B w n x->In C w n x
 | 0,_,k=>k
 | _+1,_,k=>by
  obtain⟨f,a⟩:=k;refine⟨f,?_⟩;rcases a with a|⟨b,o,e,g,a⟩
  ·exact ai a
  ·exact aj ⟨b,o,e,by omega,λi y c=>⟨(a i y c).1,(a i y c).2.mono d⟩⟩
def lG(x y:Int):Int:=if x<y then -1 else if y<x then 1 else 0
def wK(x y:ap):Int:=if Op.bytesLess x.toList y.toList then -1 else if !Op.bytesLess x.toList y.toList && !(x.toList==y.toList)then 1 else 0
def pP{c β:Type}(f:c->β->Int):List c->List β->Int
 | a::p,b::q=>if f a b=0 then pP f p q else f a b
 | _,_=>0
def xL:(n:Nat)->Tm n->(m:Nat)->Tm m->Int
 | n+1,x,m+1,y=>
  if x.1.1=y.1.1 then
   if x.1.1=1\/x.1.1=3\/x.1.1=5 then lG x.1.2.1 y.1.2.1
   else if x.1.1=2 then wK x.1.2.2 y.1.2.2
   else if x.1.1=4 then
    if x.2.2.length=y.2.2.length then pP (λa b=>xL n a m b) x.2.2 y.2.2 else lG x.2.2.length y.2.2.length
   else 0
  else lG x.1.1 y.1.1
 | _,_,_,_=>0
theorem G9{β:Type}(f:c->β->Int)(p:List c)(q:List β)(k:Nat)(a:c)(b:β)(i:p[k]?=some a)(j:q[k]?=some b):pP f (p.drop k) (q.drop k)=if f a b=0 then pP f (p.drop (k+1)) (q.drop (k+1))else f a b:=by
 obtain⟨g,d⟩:=aX.1 i;obtain⟨h,e⟩:=aX.1 j;rw[eM g,eM h,d,e];rfl
abbrev Nd:Type:=(Int×Int×ap)×(aw×Nat×Nat)
def vA(x:Nd):List av:=[ab x.1.1,ab x.1.2.1,af x.1.2.2,ae x.2.1 x.2.2.1 x.2.2.2]
def cH(l:List Nd):List av:=l.flatMap vA
def aC:(n:Nat)->Tm n->List Nd
 | 0,_=> [((0,0,.empty),(none,0,0))]
 | n+1,x=>(x.1,(x.2.1.1,x.2.2.length,x.2.1.2))::x.2.2.flatMap λy=>aC n y
def pU:(n:Nat)->Tm n->Int->List Int
 | 0,_,d=> [d]
 | n+1,x,d=>d::x.2.2.flatMap λy=>pU n y (d+1)
theorem A5{β d:Type}(f:c->List β)(g:c->List d)(b:∀a,(f a).length=(g a).length)(l:List c):(l.flatMap f).length=(l.flatMap g).length:=by
 induction l with
 | nil=>rfl
 | cons a l ih=>simp only[bK,bw,ih,b]
theorem ko:(n:Nat)->(x:Tm n)->(d:Int)->(pU n x d).length=(aC n x).length
 | 0,_,_=>rfl
 | n+1,x,d=>by
  simp only[pU,aC,br];rw[A5 (λy=>pU n y (d+1)) (λy=>aC n y) (λy=>ko n y (d+1))]
theorem oy(l:List Nd):(cH l).length=l.length*4:=by
 induction l with
 | nil=>rfl
 | cons a l ih=>simp only[cH,bK,bw,br]at ih ⊢;rw[ih];simp[vA];omega
theorem vB(l r:List Nd):cH (l++r)=cH l++cH r:=by simp[cH]
theorem tn(l:List Nd):∀u∈cH l,u.oneCell'=true:=by
 intro u a;simp only[cH,jN,vA]at a;obtain⟨b,_,a⟩:=a;simp at a;rcases a with rfl|rfl|rfl|rfl<;>rfl
theorem If{β:Type}(f:c->List β)(l:List c)(k:Nat)(x:c)(b:l[k]?=some x):(l.take (k+1)).flatMap f=(l.take k).flatMap f++f x:=by
 obtain⟨d,a⟩:=aX.1 b;rw[pD d,a];simp
theorem FF{β:Type}(f:c->List β)(l:List c)(k:Nat):((l.take k).flatMap f).length<=(l.flatMap f).length:=by
 conv=>rhs;rw[<-gZ k l]
 rw[kO,bw];omega
theorem dY{w':ag}(b:w.ownsRow base e size v n xs)(a:ak w w'):w'.ownsRow base e size v n xs:=
 b.kept (row:=none) ⟨a.os,a.tape,a.output,a.size,λk c _=>a.block k c⟩ (by cases v.ownBlock<;>simp)
theorem rO{b:Nat}(f:w.ownsRow base e size v n xs)(k:b<=base):w.ownsRow b e size v n xs:=by
 obtain⟨g,a⟩:=f;refine⟨g,?_⟩;rcases a with a|⟨d,cap,c,i,l,h,j⟩
 ·exact ai a
 ·exact aj ⟨d,cap,c,i,by omega,h,j⟩
theorem gw:(Tryz.prog.info? 31).map (λi=>(i.zero,i.size,i.bytes))=some (some (.agg #[ab 0,ab 0,af .empty,ae none 0 0]),4,56):=by kernel_rfl
theorem Fi:(Tryz.prog.info? 3).map (λi=>(i.zero,i.size,i.bytes))=some (some (ab 0),1,8):=by kernel_rfl
def qP(n lo a:Int):Bool:=decide (lo<=n) && decide (n<=a)
def zu(c:UInt8):Bool:=decide (97<=(c.toNat:Int)) && decide ((c.toNat:Int)<=122)
def gh(l:List UInt8):Bool:=l.all zu
def dV(s:ap):Bool:=qP s.size 1 8 && gh s.data.toList
theorem bU{a b:Bool}(c:a=b):Ending.returned (.bool a)=.returned (.bool b):=by rw[c]
theorem sR(s:ap)(k:Nat)(a:k<s.size):s.data.toList.take (k+1)=s.data.toList.take k++ [s[k]]:=by
 rw[pD (by simpa using a)];rfl
theorem vt(s:ap)(k:Nat)(a:k<s.size):gh (s.data.toList.take (k+1))=(gh (s.data.toList.take k) && zu s[k]):=by
 rw[sR s k a];simp[gh]
def sz:(n:Nat)->Tm n->Int
 | 0,_=>0
 | n+1,x=>if x.1.1=4 then 1+(x.2.2.map λy=>1+sz n y).sum else 0
theorem fh:(n:Nat)->(x:Tm n)->0<=sz n x/\sz n x+1<=2*((aC n x).length:Int)
 | 0,_=>⟨by simp[sz],by simp[sz,aC]⟩
 | n+1,x=>by
  have key:∀l:List (Tm n),0<=(l.map λy=>1+sz n y).sum/\(l.map λy=>1+sz n y).sum<=2*((l.flatMap λy=>aC n y).length:Int):=by
   intro l
   induction l with
   | nil=>exact⟨by simp,by simp⟩
   | cons y l ih=>
    have b:=fh n y;simp only[aU,bN,bK,bw];exact⟨by omega,by omega⟩
  have k:=key x.2.2;simp only[sz,aC,br];by_cases a:x.1.1=4
  ·rw[if_pos a];exact⟨by omega,by omega⟩
  ·rw[if_neg a];exact⟨by omega,by omega⟩
def cJ(x:Nd):Bool:=
 (if x.1.1=1 then x.1.2.2.toList.isEmpty && qP x.1.2.1 (-1099511627776) 1099511627776
  else if x.1.1=2 then dV x.1.2.2 && x.1.2.1==0
  else if x.1.1=3 then x.1.2.2.toList.isEmpty && qP x.1.2.1 1 99
  else if x.1.1=4 then x.1.2.2.toList.isEmpty && x.1.2.1==0 && decide ((x.2.2.1:Int)<=8)
  else if x.1.1=5 then x.1.2.2.toList.isEmpty && qP x.1.2.1 0 3
  else if x.1.1=6 then x.1.2.2.toList.isEmpty && x.1.2.1==0
  else false) && (x.1.1==4 || !decide ((0:Int)<(x.2.2.1:Int)))
def ny(x:Nd)(d m:Int):Int:=if x.1.1=4/\m<d+1 then d+1 else m
def C7(a:Int):List Nd->List Int->Int->Int
 | x::l,d::ds,m=>if cJ x then C7 a l ds (ny x d m)else 5
 | _,_,m=>if 12<m\/200<a then 2 else 0
def bE(n:Nat)(x:Tm n):Int:=C7 (sz n x) (aC n x) (pU n x 0) 0
theorem iZ(l:List Nd)(k:Nat)(x:Nd)(b:l[k]?=some x)(j:Nat)(e:j<4):(cH l)[k*4+j]?=(vA x)[j]? :=by
 induction l generalizing k with
 | nil=>simp at b
 | cons a l ih=>
  have c:cH (a::l)=vA a++cH l:=rfl;have d:(vA a).length=4:=rfl;rw[c];cases k with
  | zero=>
   have:a=x:=by simpa using b
   subst this;rw[dx (by omega)];simp
  | succ k=>
   rw[eq (by omega),d,<-ih k (by simpa using b)];congr 1;omega
theorem fu(g j:Nat):(⟨g,0,none⟩:Addr).add j=⟨g,j,none⟩:=by unfold Addr.add;split<;>simp_all
theorem DT{g c L:Nat}{l:List Nd}(d:w.ownsRow base 31 4 (ae (some ⟨g,0,none⟩) L c) L (cH l))(k:Nat)(x:Nd)(b:l[k]?=some x):w.cell? ⟨g,k*4,none⟩=some (ab x.1.1)/\w.cell? ⟨g,k*4+1,none⟩=some (ab x.1.2.1)/\w.cell? ⟨g,k*4+2,none⟩=some (af x.1.2.2)/\w.cell? ⟨g,k*4+3,none⟩=some (ae x.2.1 x.2.2.1 x.2.2.2):=by
 have a:=d.cells (g:=g) rfl;refine⟨?_,?_,?_,?_⟩
 ·have:=a (k*4+0) (ab x.1.1) (by rw[iZ l k x b 0 (by omega)];rfl);rw[fu]at this;exact this
 ·have:=a (k*4+1) (ab x.1.2.1) (by rw[iZ l k x b 1 (by omega)];rfl);rw[fu]at this;exact this
 ·have:=a (k*4+2) (af x.1.2.2) (by rw[iZ l k x b 2 (by omega)];rfl);rw[fu]at this;exact this
 ·have:=a (k*4+3) (ae x.2.1 x.2.2.1 x.2.2.2) (by rw[iZ l k x b 3 (by omega)];rfl);rw[fu]at this;exact this
end Go.Proofs.YtmmahddlcldmiaaGreat
