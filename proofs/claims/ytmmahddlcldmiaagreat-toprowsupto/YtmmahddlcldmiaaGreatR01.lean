/- Proved here: plain facts and contracts. No condition but what each names. -/
import Derived.Test.YtmmahddlcldmiaaGreatRows
import Derived.WalkKit
import Derived.WalkSpells
import Derived.WalkLawsBesides
import Derived.Deep.AppendLies
import Derived.Deep.Light
import Derived.Handy
import Derived.Deep.RegionHeld3
import Derived.Deep.DrawnRows
import Derived.Laws.MakeOwn
namespace Go.Proofs.YtmmahddlcldmiaaGreat
open Go.RowKit Go.Proofs.Tryz
set_option maxHeartbeats 1000000
set_option maxRecDepth 100000
abbrev aj:= @Or.inl
abbrev ak:= @Or.inr
abbrev av:= @Nat.le_refl
abbrev ay:= @bodyPost_ret
abbrev az:= @Option.some.inj
abbrev aA:= @Below.refl
abbrev aF:= @Nat.le_trans
abbrev aI:= @Array.getElem?_eq_some_iff
abbrev aD:= @heap_alloc_new
abbrev aK:= @Bool.and_eq_true
abbrev aL:= @List.mem_of_getElem?
abbrev aM:= @Nat.zero_le
abbrev aN:= @List.getElem?_eq_getElem
abbrev aV:= @List.map_cons
abbrev aW:= @Nat.lt_of_lt_of_le
abbrev aZ:= @List.getElem?_eq_some_iff
abbrev bz:= @List.length_append
abbrev bA:= @List.length_cons
abbrev bD:= @List.take_of_length_le
abbrev bI:= @Option.bind_eq_some_iff
abbrev bL:= @List.eq_nil_of_length_eq_zero
abbrev bP:= @List.flatMap_cons
abbrev bR:= @List.sum_cons
abbrev bT:= @Array.getElem?_modify
abbrev bW:= @List.mem_cons_of_mem
abbrev bY:= @info_parts
abbrev co:= @List.setIfInBounds_toArray
abbrev cu:= @List.mem_map
abbrev cv:= @beq_iff_eq
abbrev cw:= @decide_eq_true_eq
abbrev cC:= @run_underlying
abbrev cF:= @List.map_nil
abbrev cG:= @Option.map_eq_some_iff
abbrev cI:= @ByteArray.toList_eq
abbrev cJ:= @List.all_eq_true
abbrev cT:= @Nat.zero_add
abbrev cY:= @List.mem_cons
abbrev de:= @List.mem_append
abbrev dh:= @List.getElem?_cons_zero
abbrev di:= @World.grownBy_alloc
abbrev dj:= @if_true
abbrev dn:= @List.getElem?_map
abbrev dp:= @List.getElem?_of_mem
abbrev dy:= @List.getElem?_cons_succ
abbrev dB:= @List.getElem?_append_left
abbrev dC:= @List.mem_singleton
abbrev dD:= @List.set_cons_succ
abbrev dE:= @List.set_cons_zero
abbrev dF:= @List.take_add_one
abbrev dK:= @List.length_take
abbrev dL:= @bodyPost_end
abbrev dQ:= @List.append_nil
abbrev dR:= @List.getElem?_append_right
abbrev dS:= @List.length_map
abbrev dT:= @Nat.le_of_eq
abbrev dU:= @Option.bind_some
abbrev ew:= @List.size_toArray
abbrev eH:= @Prod.mk.injEq
abbrev eU:= @Addr.add_lit
abbrev eV:= @Bool.true_and
abbrev eW:= @List.cons_append
abbrev eX:= @List.drop_eq_getElem_cons
abbrev eY:= @List.getElem?_eq_none
abbrev eZ:= @World.ownsRow_nil
abbrev fu:= @Below.heap_setCell
abbrev fw:= @List.length_drop
abbrev fx:= @Nat.add_sub_cancel
abbrev fL:= @List.find?_cons
abbrev fM:= @List.nodup_append
abbrev fN:= @Nat.le_succ
abbrev fO:= @Prod.ext
abbrev fP:= @of_decide_eq_true
abbrev gt:= @List.drop_eq_nil_of_le
abbrev gu:= @Nat.sub_self
abbrev gw:= @Option.isSome_iff_exists
abbrev gU:= @List.foldl_cons
abbrev gV:= @List.map_append
abbrev gW:= @List.map_map
abbrev gX:= @List.not_mem_nil
abbrev gY:= @List.prefix_refl
abbrev gZ:= @Option.some.injEq
abbrev g8:= @World.grownBy.refl
abbrev g9:= @beq_eq_false_iff_ne
abbrev hU:= @or_false
abbrev iR:= @Array.length_toList
abbrev iS:= @Bool.and_self
abbrev iT:= @Bool.or_eq_true
abbrev iU:= @List.length_nil
abbrev iV:= @List.set_append_right
abbrev iW:= @List.take_append_of_le_length
abbrev iX:= @MapKept.run_getObj_map
abbrev iY:= @Nat.add_zero
abbrev iZ:= @WalkArith.wf_i64
abbrev ja:= @World.size_alloc
abbrev jb:= @decide_eq_true
abbrev jc:= @rounds_succ
abbrev iv:= @List.getElem_mem
abbrev iw:= @List.mem_flatMap
abbrev iy:= @List.nil_append
abbrev iz:= @List.sum_nil
abbrev iA:= @List.take_append_drop
abbrev iB:= @Nat.le_add_right
abbrev iC:= @World.block_lt_of_cell?
abbrev iD:= @World.cell?_setCell_same
abbrev jA:= @ChangeMaps.heap_setBlock_same
abbrev jB:= @DataW.trod_int
abbrev jC:= @DataW.trod_struct
abbrev jD:= @Int.le_refl
abbrev jE:= @List.all_cons
abbrev jF:= @List.foldl_append
abbrev jG:= @List.getElem?_take
abbrev jH:= @List.map_congr_left
abbrev jI:= @World.frozen?_of_block
abbrev ld:= @Bool.not_eq_true'
abbrev lf:= @List.all_append
abbrev lg:= @List.append_assoc
abbrev lh:= @List.cons.injEq
abbrev lj:= @List.find?_eq_none
abbrev lk:= @List.flatMap_append
abbrev lm:= @List.getElem?_drop
abbrev lp:= @List.mem_map_of_mem
abbrev lq:= @List.nodup_cons
abbrev lu:= @MapKept.run_setObj_map
abbrev lw:= @Option.isNone_iff_eq_none
abbrev lA:= @Option.not_isSome
abbrev lB:= @callsIn_wide
abbrev lC:= @run_makeMap
abbrev lD:= @wpList_make_full
abbrev lE:= @wp_loop_rounds
abbrev nv:= @Array.getElem?_toList
abbrev nw:= @Go.WideMaps.keyOf_string_mk
abbrev ny:= @List.drop_append_of_le_length
abbrev nz:= @List.getD_eq_getElem?_getD
abbrev nA:= @List.map_toArray
abbrev nB:= @List.mem_cons_self
abbrev nC:= @List.replicate_zero
abbrev nD:= @List.take_zero
abbrev nE:= @Option.isSome_none
abbrev nF:= @Option.isSome_some
abbrev nG:= @Option.map_some
abbrev nH:= @Result.andThen_ok
abbrev nI:= @World.ownsMap_made
abbrev pH:= @Array.replicate_succ
abbrev pI:= @Array.replicate_zero
abbrev pJ:= @Bool.and_eq_false_iff
abbrev pK:= @Bool.false_eq_true
abbrev pL:= @DataW.trod_string
abbrev pN:= @List.append_toArray
abbrev pO:= @List.drop_of_length_le
abbrev pP:= @List.findIdx?_eq_none_iff
abbrev pQ:= @List.prefix_append
abbrev pR:= @List.push_toArray
abbrev pS:= @List.take_succ_eq_append_getElem
abbrev pT:= @List.toList_toArray
abbrev pU:= @UInt8.lt_iff_toNat_lt
abbrev pV:= @World.cells?_some
abbrev pW:= @World.ownsRow.kept
abbrev pX:= @run_storeCells_at
abbrev tz:= @List.eraseIdx_eq_take_drop_succ
abbrev tA:= @List.getElem?_take_of_lt
abbrev tB:= @List.length_filterMap_le
abbrev tC:= @List.mem_or_eq_of_mem_set
abbrev ab(x:Int):Value:=.int .i64 x
abbrev af(s:ByteArray):Value:=.string s
abbrev ae(a:Option Addr)(l c:Nat):Value:=.slice a l c
abbrev aH(b:Nat):Value:=.pointer (some ⟨b,0,none⟩)
abbrev am(w w':World):Prop:=Below w.heap.size w w'
abbrev ao:=Calls Tryz.prog
abbrev ai(w:World)(b o:Nat)(v:Value):Prop:=w.cell? ⟨b,o,none⟩=some v
abbrev br:=List ByteArray
abbrev cX:=List Value
abbrev bt:=World->Prop
abbrev da:=Option Nat
abbrev aY:=Int×Int
abbrev aq:=ByteArray
abbrev ag:=World
abbrev au:=Value
abbrev ar:=Option Addr
theorem aS(w:World)(o:Obj):Below w.heap.size w (w.alloc o):=(aA _ _).alloc (av _) _
abbrev aO:=Nat->Prop
theorem jK{k:IntKind}{a b:Int}(c:a=b):Ending.returned (.int k a)=.returned (.int k b):=by rw[c]
theorem ap{p:Prop}(a:p):Hid p:=a
theorem dc{w w1:ag}(a:Below w.drew.heap.size w.drew w1):am w w1:=⟨a.os,a.tape,a.output,a.size,a.block⟩
theorem aw{B:Nat}{w w1:ag}(a:Below B w w1):∀b o,b<B->w1.cell? ⟨b,o,none⟩=w.cell? ⟨b,o,none⟩:=λb o c=>a.cell (p:=⟨b,o,none⟩) c
def Tm:Nat->Type
 | 0=>Unit
 | n+1=>(Int×Int×aq)×(ar×Nat)×List (Tm n)
def dG:(n:Nat)->Tm n->au
 | 0,_=> .nilIface
 | _+1,x=> .agg #[ab x.1.1,ab x.1.2.1,af x.1.2.2,ae x.2.1.1 x.2.2.length x.2.1.2]
def dH(w:ag)(b o:Nat):(n:Nat)->Tm n->Prop
 | 0,_=>False
 | _+1,x=>w.cell? ⟨b,o,none⟩=some (ab x.1.1)/\w.cell? ⟨b,o+1,none⟩=some (ab x.1.2.1)/\
    w.cell? ⟨b,o+2,none⟩=some (af x.1.2.2)/\w.cell? ⟨b,o+3,none⟩=some (ae x.2.1.1 x.2.2.length x.2.1.2)
def dN(k:Int):Prop:=-9223372036854775808<=k/\k<=9223372036854775807
def In(B:Nat)(w:ag):(n:Nat)->Tm n->Prop
 | 0,_=>False
 | n+1,x=>(dN x.1.1/\dN x.1.2.1/\x.1.2.2.size<=maxLen/\x.2.2.length<=x.2.1.2/\x.2.1.2<=maxLen)/\
    (x.2.2=[]\/∃b o,x.2.1.1=some ⟨b,o,none⟩/\b<B/\∀(i:Nat)(y:Tm n),x.2.2[i]?=some y->dH w b (o+i*4) n y/\In B w n y)
theorem dH.below{B:Nat}{w w':ag}(a:Below B w w'){b o:Nat}(c:b<B):{n:Nat}->{x:Tm n}->dH w b o n x->dH w' b o n x
 | 0,_,k=>k
 | _+1,_,k=>by
  obtain⟨d,e,f,g⟩:=k;exact⟨(a.cell (p:=⟨b,o,none⟩) c).trans d,(a.cell (p:=⟨b,o+1,none⟩) c).trans e,(a.cell (p:=⟨b,o+2,none⟩) c).trans f,(a.cell (p:=⟨b,o+3,none⟩) c).trans g⟩
theorem In.below{B:Nat}{w w':ag}(c:Below B w w'):{n:Nat}->{x:Tm n}->In B w n x->In B w' n x
 | 0,_,k=>k
 | _+1,_,k=>by
  obtain⟨g,a⟩:=k;refine⟨g,?_⟩;rcases a with a|⟨b,o,e,d,a⟩
  ·exact aj a
  ·exact ak ⟨b,o,e,d,λi y f=>⟨(a i y f).1.below c d,(a i y f).2.below c⟩⟩
theorem In.mono{B C:Nat}(d:B<=C){w:ag}:{n:Nat}->{x:Tm n}->In B w n x->In C w n x
 | 0,_,k=>k
 | _+1,_,k=>by
  obtain⟨f,a⟩:=k;refine⟨f,?_⟩;rcases a with a|⟨b,o,e,g,a⟩
  ·exact aj a
  ·exact ak ⟨b,o,e,by omega,λi y c=>⟨(a i y c).1,(a i y c).2.mono d⟩⟩
def lX(x y:Int):Int:=if x<y then -1 else if y<x then 1 else 0
def xt(x y:aq):Int:=if Op.bytesLess x.toList y.toList then -1 else if !Op.bytesLess x.toList y.toList && !(x.toList==y.toList)then 1 else 0
def qd{c β:Type}(f:c->β->Int):List c->List β->Int
 | a::p,b::q=>if f a b=0 then qd f p q else f a b
 | _,_=>0
def yw:(n:Nat)->Tm n->(m:Nat)->Tm m->Int
 | n+1,x,m+1,y=>
  if x.1.1=y.1.1 then
   if x.1.1=1\/x.1.1=3\/x.1.1=5 then lX x.1.2.1 y.1.2.1
   else if x.1.1=2 then xt x.1.2.2 y.1.2.2
   else if x.1.1=4 then
    if x.2.2.length=y.2.2.length then qd (λa b=>yw n a m b) x.2.2 y.2.2 else lX x.2.2.length y.2.2.length
   else 0
  else lX x.1.1 y.1.1
 | _,_,_,_=>0
theorem Ix{c β:Type}(f:c->β->Int)(p:List c)(q:List β)(k:Nat)(a:c)(b:β)(i:p[k]?=some a)(j:q[k]?=some b):qd f (p.drop k) (q.drop k)=if f a b=0 then qd f (p.drop (k+1)) (q.drop (k+1))else f a b:=by
 obtain⟨g,d⟩:=aZ.1 i;obtain⟨h,e⟩:=aZ.1 j;rw[eX g,eX h,d,e];rfl
abbrev Nd:Type:=(Int×Int×aq)×(ar×Nat×Nat)
def uk(x:Nd):List au:=[ab x.1.1,ab x.1.2.1,af x.1.2.2,ae x.2.1 x.2.2.1 x.2.2.2]
def cO(l:List Nd):List au:=l.flatMap uk
def aC:(n:Nat)->Tm n->List Nd
 | 0,_=> [((0,0,.empty),(none,0,0))]
 | n+1,x=>(x.1,(x.2.1.1,x.2.2.length,x.2.1.2))::x.2.2.flatMap λy=>aC n y
def qk:(n:Nat)->Tm n->Int->List Int
 | 0,_,d=> [d]
 | n+1,x,d=>d::x.2.2.flatMap λy=>qk n y (d+1)
theorem BF{b β d:Type}(f:b->List β)(g:b->List d)(c:∀a,(f a).length=(g a).length)(l:List b):(l.flatMap f).length=(l.flatMap g).length:=by
 induction l with
 | nil=>rfl
 | cons a l ih=>simp only[bP,bz,ih,c]
theorem kF:(n:Nat)->(x:Tm n)->(d:Int)->(qk n x d).length=(aC n x).length
 | 0,_,_=>rfl
 | n+1,x,d=>by
  simp only[qk,aC,bA];rw[BF (λy=>qk n y (d+1)) (λy=>aC n y) (λy=>kF n y (d+1))]
theorem oN(l:List Nd):(cO l).length=l.length*4:=by
 induction l with
 | nil=>rfl
 | cons a l ih=>simp only[cO,bP,bz,bA]at ih ⊢;rw[ih];simp[uk];omega
theorem wg(l r:List Nd):cO (l++r)=cO l++cO r:=by simp[cO]
theorem tP(l:List Nd):∀b∈cO l,b.oneCell'=true:=by
 intro b a;simp only[cO,iw,uk]at a;obtain⟨c,_,a⟩:=a;simp at a;rcases a with rfl|rfl|rfl|rfl<;>rfl
theorem I6{a β:Type}(f:a->List β)(l:List a)(k:Nat)(x:a)(c:l[k]?=some x):(l.take (k+1)).flatMap f=(l.take k).flatMap f++f x:=by
 obtain⟨d,b⟩:=aZ.1 c;rw[pS d,b];simp
theorem Gp{a β:Type}(f:a->List β)(l:List a)(k:Nat):((l.take k).flatMap f).length<=(l.flatMap f).length:=by
 conv=>rhs;rw[<-iA k l]
 rw[lk,bz];omega
theorem ez{w w':ag}{base e size:Nat}{v:au}{n:Nat}{xs:cX}(b:w.ownsRow base e size v n xs)(a:am w w'):w'.ownsRow base e size v n xs:=
 b.kept (row:=none) ⟨a.os,a.tape,a.output,a.size,λk c _=>a.block k c⟩ (by cases v.ownBlock<;>simp)
theorem sk{w:ag}{base b e size:Nat}{v:au}{n:Nat}{xs:cX}(f:w.ownsRow base e size v n xs)(k:b<=base):w.ownsRow b e size v n xs:=by
 obtain⟨g,a⟩:=f;refine⟨g,?_⟩;rcases a with a|⟨d,cap,c,i,l,h,j⟩
 ·exact aj a
 ·exact ak ⟨d,cap,c,i,by omega,h,j⟩
theorem gO:(Tryz.prog.info? 31).map (λi=>(i.zero,i.size,i.bytes))=some (some (.agg #[ab 0,ab 0,af .empty,ae none 0 0]),4,56):=by kernel_rfl
theorem FZ:(Tryz.prog.info? 3).map (λi=>(i.zero,i.size,i.bytes))=some (some (ab 0),1,8):=by kernel_rfl
def rk(n lo a:Int):Bool:=decide (lo<=n) && decide (n<=a)
def Ae(c:UInt8):Bool:=decide (97<=(c.toNat:Int)) && decide ((c.toNat:Int)<=122)
def gF(l:List UInt8):Bool:=l.all Ae
def ex(s:aq):Bool:=rk s.size 1 8 && gF s.data.toList
theorem b9{a b:Bool}(c:a=b):Ending.returned (.bool a)=.returned (.bool b):=by rw[c]
theorem tr(s:aq)(k:Nat)(a:k<s.size):s.data.toList.take (k+1)=s.data.toList.take k++ [s[k]]:=by
 rw[pS (by simpa using a)];rfl
theorem vU(s:aq)(k:Nat)(a:k<s.size):gF (s.data.toList.take (k+1))=(gF (s.data.toList.take k) && Ae s[k]):=by
 rw[tr s k a];simp[gF]
def sz:(n:Nat)->Tm n->Int
 | 0,_=>0
 | n+1,x=>if x.1.1=4 then 1+(x.2.2.map λy=>1+sz n y).sum else 0
theorem ft:(n:Nat)->(x:Tm n)->0<=sz n x/\sz n x+1<=2*((aC n x).length:Int)
 | 0,_=>⟨by simp[sz],by simp[sz,aC]⟩
 | n+1,x=>by
  have key:∀l:List (Tm n),0<=(l.map λy=>1+sz n y).sum/\(l.map λy=>1+sz n y).sum<=2*((l.flatMap λy=>aC n y).length:Int):=by
   intro l
   induction l with
   | nil=>exact⟨by simp,by simp⟩
   | cons y l ih=>
    have b:=ft n y;simp only[aV,bR,bP,bz];exact⟨by omega,by omega⟩
  have k:=key x.2.2;simp only[sz,aC,bA];by_cases a:x.1.1=4
  ·rw[if_pos a];exact⟨by omega,by omega⟩
  ·rw[if_neg a];exact⟨by omega,by omega⟩
def cQ(x:Nd):Bool:=
 (if x.1.1=1 then x.1.2.2.toList.isEmpty && rk x.1.2.1 (-1099511627776) 1099511627776
  else if x.1.1=2 then ex x.1.2.2 && x.1.2.1==0
  else if x.1.1=3 then x.1.2.2.toList.isEmpty && rk x.1.2.1 1 99
  else if x.1.1=4 then x.1.2.2.toList.isEmpty && x.1.2.1==0 && decide ((x.2.2.1:Int)<=8)
  else if x.1.1=5 then x.1.2.2.toList.isEmpty && rk x.1.2.1 0 3
  else if x.1.1=6 then x.1.2.2.toList.isEmpty && x.1.2.1==0
  else false) && (x.1.1==4 || !decide ((0:Int)<(x.2.2.1:Int)))
def nQ(x:Nd)(d m:Int):Int:=if x.1.1=4/\m<d+1 then d+1 else m
def DK(a:Int):List Nd->List Int->Int->Int
 | x::l,d::ds,m=>if cQ x then DK a l ds (nQ x d m)else 5
 | _,_,m=>if 12<m\/200<a then 2 else 0
def bJ(n:Nat)(x:Tm n):Int:=DK (sz n x) (aC n x) (qk n x 0) 0
theorem jr(l:List Nd)(k:Nat)(x:Nd)(b:l[k]?=some x)(j:Nat)(e:j<4):(cO l)[k*4+j]?=(uk x)[j]? :=by
 induction l generalizing k with
 | nil=>simp at b
 | cons a l ih=>
  have c:cO (a::l)=uk a++cO l:=rfl;have d:(uk a).length=4:=rfl;rw[c];cases k with
  | zero=>
   have:a=x:=by simpa using b
   subst this;rw[dB (by omega)];simp
  | succ k=>
   rw[dR (by omega),d,<-ih k (by simpa using b)];congr 1;omega
theorem fG(g j:Nat):(⟨g,0,none⟩:Addr).add j=⟨g,j,none⟩:=by unfold Addr.add;split<;>simp_all
theorem EA{w:ag}{base g c L:Nat}{l:List Nd}(d:w.ownsRow base 31 4 (ae (some ⟨g,0,none⟩) L c) L (cO l))(k:Nat)(x:Nd)(b:l[k]?=some x):ai w g (k*4) (ab x.1.1)/\ai w g (k*4+1) (ab x.1.2.1)/\ai w g (k*4+2) (af x.1.2.2)/\ai w g (k*4+3) (ae x.2.1 x.2.2.1 x.2.2.2):=by
 have a:=d.cells (g:=g) rfl;refine⟨?_,?_,?_,?_⟩
 ·have:=a (k*4+0) (ab x.1.1) (by rw[jr l k x b 0 (by omega)];rfl);rw[fG]at this;exact this
 ·have:=a (k*4+1) (ab x.1.2.1) (by rw[jr l k x b 1 (by omega)];rfl);rw[fG]at this;exact this
 ·have:=a (k*4+2) (af x.1.2.2) (by rw[jr l k x b 2 (by omega)];rfl);rw[fG]at this;exact this
 ·have:=a (k*4+3) (ae x.2.1 x.2.2.1 x.2.2.2) (by rw[jr l k x b 3 (by omega)];rfl);rw[fG]at this;exact this
theorem G0(x:Nd){d m:Int}(a:¬(x.1.1=4/\m<d+1)):nQ x d m=m:=if_neg a
theorem xQ(e:Int):(l:List Nd)->(a:List Int)->(m:Int)->l.length=a.length->DK e l a m=0->∀y∈l,cQ y=true
 | [],_,_,_,_=>by simp
 | x::l,[],_,h,_=>by simp at h
 | x::l,d::a,m,h,h0=>by
  simp only[DK]at h0;by_cases b:cQ x=true
  ·rw[if_pos b]at h0;intro y c;rcases cY.1 c with rfl|c
   ·exact b
   ·exact xQ e l a _ (by simpa using h) h0 y c
  ·rw[if_neg b]at h0;cases h0
theorem rI(n:Nat)(x:Tm n)(a:bJ n x=0):∀y∈aC n x,cQ y=true:=
 xQ _ _ _ _ (kF n x 0).symm a
theorem pw{n:Nat}{x:Tm (n+1)}{y:Tm n}(b:y∈x.2.2){a:Nd}(c:a∈aC n y):a∈aC (n+1) x:=by
 simp only[aC,cY,iw];exact ak ⟨y,b,c⟩
theorem kP(x:Nd)(a:cQ x=true):x.1.1=1\/x.1.1=2\/x.1.1=3\/x.1.1=4\/x.1.1=5\/(x.1.1=6/\x.1.2.1=0):=by
 by_cases b:x.1.1=1
 ·exact aj b
 by_cases c:x.1.1=2
 ·exact ak (aj c)
 by_cases d:x.1.1=3
 ·exact ak (ak (aj d))
 by_cases e:x.1.1=4
 ·exact ak (ak (ak (aj e)))
 by_cases f:x.1.1=5
 ·exact ak (ak (ak (ak (aj f))))
 by_cases g:x.1.1=6
 ·refine ak (ak (ak (ak (ak ⟨g,?_⟩))));unfold cQ at a;rw[if_neg b,if_neg c,if_neg d,if_neg e,if_neg f,if_pos g]at a;simp only[aK,cv]at a;exact a.1.2
 ·unfold cQ at a;rw[if_neg b,if_neg c,if_neg d,if_neg e,if_neg f,if_neg g]at a;cases a
def aG{c β:Type}(f:c->β->Bool):List c->List β->Bool
 | [],[]=>true
 | a::p,b::q=>f a b && aG f p q
 | _,_=>false
def aB:(n:Nat)->Tm n->(m:Nat)->Tm m->Bool
 | n+1,x,m+1,y=>x.1.1==y.1.1 && x.1.2.1==y.1.2.1 && x.1.2.2.toList==y.1.2.2.toList && aG (λa b=>aB n a m b) x.2.2 y.2.2
 | _,_,_,_=>false
theorem fq{a b:Bool}(c:a=b):Ending.returned (.bool a)=.returned (.bool b):=by rw[c]
theorem EO{c β:Type}(f:c->β->Bool)(p:List c)(q:List β)(k:Nat)(a:c)(b:β)(i:p[k]?=some a)(j:q[k]?=some b):aG f (p.drop k) (q.drop k)=(f a b && aG f (p.drop (k+1)) (q.drop (k+1))):=by
 obtain⟨g,d⟩:=aZ.1 i;obtain⟨h,e⟩:=aZ.1 j;rw[eX g,eX h,d,e];rfl
theorem wK{c β:Type}(f:c->β->Bool):(p:List c)->(q:List β)->¬p.length=q.length->aG f p q=false
 | [],[],h=>by simp at h
 | [],_::_,_=>rfl
 | _::_,[],_=>rfl
 | a::p,b::q,h=>by
  simp only[aG];rw[wK f p q (by simpa using h)];simp
def JF(n:Nat):Prop:=∀(x:Tm n)(m:Nat)(y:Tm m)(B:Nat)(w:ag),In B w n x->In B w m y->B<=w.heap.size->
 ao 16 #[dG n x,dG m y] w λe w'=>e=.returned (.bool (aB n x m y))/\am w w'
theorem Ks(p q:Nat)(a c:ar)(pc d:Nat)(w:ag)(_hpc:p<=9223372036854775807)(_hqc:q<=9223372036854775807)(b:((p:Int)==(q:Int))=false):ao 36 #[ae a p pc,ae c q d,.func (Fn.func 16) #[] #[]] w λe w'=>e=.returned (.bool false)/\w'=w:=by
 have f:((p:Int) !=(q:Int))=true:=by simpa using b
 go_enter func36,ntmps36;go_wp2_with fail
 go_ret
 exact⟨rfl,rfl⟩
theorem xV(a c:ar)(pc d:Nat)(w:ag):ao 36 #[ae a 0 pc,ae c 0 d,.func (Fn.func 16) #[] #[]] w λe w'=>e=.returned (.bool true)/\w'=w:=by
 go_enter func36,ntmps36;go_wp2_with fail
 go_loop [17] (λb=>b=ab 0) (λ_=>0)
 case atStart=>rfl
 case round=>
  obtain rfl:=hrel;go_wp2_with fail
  go_ret
  exact⟨rfl,rfl⟩
theorem Kr(n m:Nat)(ih:JF n)(p:List (Tm n))(q:List (Tm m))(len:Nat)(G:Hid (p.length=len))(I:Hid (q.length=len))(r po s J pc N:Nat)(B:Nat)(w:ag)(S:len<=9223372036854775807)(L:r<B)(M:s<B)(F:∀(i:Nat)(y:Tm n),p[i]?=some y->dH w r (po+i*4) n y/\In B w n y)(H:∀(i:Nat)(y:Tm m),q[i]?=some y->dH w s (J+i*4) m y/\In B w m y)(f:B<=w.heap.size):ao 36 #[ae (some ⟨r,po,none⟩) len pc,ae (some ⟨s,J,none⟩) len N,.func (Fn.func 16) #[] #[]] w λe w'=> e=.returned (.bool (aG (λa b=>aB n a m b) p q))/\am w w':=by
 go_enter func36,ntmps36;go_wp2_with fail;go_loopw [17] (λi wr=>∃k:Nat,k<=len/\i=ab k/\am w wr/\Hid (aG (λa b=>aB n a m b) (p.drop k) (q.drop k)=aG (λa b=>aB n a m b) p q)) (λi _=>len-(intOf i).toNat)
 case atStart=>exact⟨0,by omega,rfl,aA _ _,rfl⟩
 case round=>
  obtain⟨k,P,rfl,c,v⟩:=hrel;by_cases E:k<len
  ·obtain⟨x,z⟩:∃x,p[k]?=some x:=⟨p[k]'(by rw[G.out];exact E),aN _⟩;obtain⟨y,A⟩:∃y,q[k]?=some y:=⟨q[k]'(by rw[I.out];exact E),aN _⟩;obtain⟨h,j⟩:=F k x z;obtain⟨l,o⟩:=H k y A;have g:=ap (EO (λa b=>aB n a m b) p q k x y z A);replace h:=h.below (c.mono f) L;replace l:=l.below (c.mono f) M;replace j:=j.below (c.mono f);replace o:=o.below (c.mono f);clear F H z A;cases n with
   | zero=>exact h.elim
   | succ n=>
   cases m with
   | zero=>exact l.elim
   | succ m=>
   obtain⟨V,W,X,Y⟩:=h;obtain⟨y0,y1,y2,aa⟩:=l;have u:B<=wr.heap.size:=aF f c.size
   have K:Hid (∀(d:ag),am wr d->ao 16 #[.agg #[ab x.1.1,ab x.1.2.1,af x.1.2.2,ae x.2.1.1 x.2.2.length x.2.1.2],.agg #[ab y.1.1,ab y.1.2.1,af y.1.2.2,ae y.2.1.1 y.2.2.length y.2.1.2]] d λe w'=>e=.returned (.bool (aB (n+1) x (m+1) y))/\am d w'):=
    λd t=>ih x (m+1) y B d (j.below (t.mono u)) (o.below (t.mono u)) (aF u t.size)
   clear ih j o;replace g:Hid (aG (λa b=>aB (n+1) a (m+1) b) (p.drop k) (q.drop k)=(aB (n+1) x (m+1) y && aG (λa b=>aB (n+1) a (m+1) b) (p.drop (k+1)) (q.drop (k+1)))):=g;generalize aB (n+1) x (m+1) y=O at*;generalize x.2.2.length=Z at*;generalize y.2.2.length=yl at*;have Q:(0:Int)<=(k:Int):=by omega
   have R:(k:Int)<(len:Int):=by omega
   have T:r<wr.heap.size:=by omega
   have U:s<wr.heap.size:=by omega
   go_wp2_with fail;refine(K _ ((aS _ _).alloc (by simp) _)).mono ?_;rintro e d ⟨rfl,C⟩;have D:am w d:=(c.trans (((aS _ _).alloc (by simp) _).mono c.size)).trans (C.mono (by have:=c.size;simp;omega));clear C;cases O with
   | true=>
    go_wp2_with fail;go_roundw
    case rel=>exact⟨k+1,by omega,by go_num,D,by rw[<-v.out,g.out];rfl⟩
    case measure=>simp[intOf];omega
   | false=>
    go_wp2_with fail
    go_ret
    exact⟨fq (by rw[<-v.out,g.out];rfl),D⟩
  ·go_wp2_with fail
   go_ret
   refine⟨fq ?_,c⟩;rw[<-v.out,gt (by rw[G.out];omega),gt (by rw[I.out];omega)];rfl
theorem qn(n m:Nat)(ih:JF n)(p:List (Tm n))(q:List (Tm m))(a c:ar)(pc h:Nat)(B:Nat)(w:ag)(f:p=[]\/∃b o,a=some ⟨b,o,none⟩/\b<B/\∀(i:Nat)(y:Tm n),p[i]?=some y->dH w b (o+i*4) n y/\In B w n y)(g:q=[]\/∃b o,c=some ⟨b,o,none⟩/\b<B/\∀(i:Nat)(y:Tm m),q[i]?=some y->dH w b (o+i*4) m y/\In B w m y)(l:p.length<=9223372036854775807)(r:q.length<=9223372036854775807)(k:B<=w.heap.size):ao 17 #[ae a p.length pc,ae c q.length h] w λe w'=>e=.returned (.bool (aG (λa b=>aB n a m b) p q))/\am w w':=by
 have s:Hid (ao 36 #[ae a p.length pc,ae c q.length h,.func (Fn.func 16) #[] #[]] w λe w'=>
   e=.returned (.bool (aG (λa b=>aB n a m b) p q))/\am w w'):=by
  by_cases d:p.length=q.length
  ·rcases f with f|⟨A,po,rfl,v,f⟩
   ·subst f;have x:q=[]:=bL d.symm;subst x;refine(xV a c pc h w).mono ?_;rintro e w' ⟨rfl,rfl⟩;exact⟨rfl,aA _ _⟩
   ·rcases g with g|⟨C,D,rfl,z,g⟩
    ·subst g;have u:p=[]:=bL d;subst u;refine(xV _ c pc h w).mono ?_;rintro e w' ⟨rfl,rfl⟩;exact⟨rfl,aA _ _⟩
    ·have j:=Kr n m ih p q p.length rfl d.symm A po C D pc h B w (by omega) v z f g k;rw[d]at j;rw[d];exact j
  ·rw[wK _ _ _ d];refine(Ks p.length q.length a c pc h w l r (by simp;omega)).mono ?_;rintro e w' ⟨rfl,rfl⟩;exact⟨rfl,aA _ _⟩
 clear f g ih l r k;generalize p.length=pl at*;generalize q.length=E at*;generalize aG (λa b=>aB n a m b) p q=F at*;go_enter func17,ntmps17;go_wp2_with fail;refine s.mono ?_;rintro e G ⟨rfl,t⟩;go_wp2_with fail
 go_ret
 exact⟨rfl,t⟩
theorem IW(w:ag)(k b f g:Int)(s d:aq)(a h:ar)(l j c i:Nat)(r:Bool)(H:Hid (∀w1:ag,am w w1->ao 17 #[ae a l c,ae h j i] w1 λe w'=>e=.returned (.bool r)/\am w1 w')):ao 16 #[.agg #[ab k,ab f,af s,ae a l c],.agg #[ab b,ab g,af d,ae h j i]] w λe w'=>e=.returned (.bool (k==b && f==g && s.toList==d.toList && r))/\am w w':=by
 cases h1:k==b
 ·go_enter func16,ntmps16;go_wp2_with fail
  go_ret
  exact⟨rfl,(aS _ _).alloc (by simp) _⟩
 cases h2:f==g
 ·go_enter func16,ntmps16;go_wp2_with fail
  go_ret
  exact⟨rfl,(aS _ _).alloc (by simp) _⟩
 cases h3:s.toList==d.toList
 ·go_enter func16,ntmps16;go_wp2_with fail
  go_ret
  exact⟨rfl,(aS _ _).alloc (by simp) _⟩
 go_enter func16,ntmps16;go_wp2_with fail;refine(H _ ((aS _ _).alloc (by simp) _)).mono ?_;rintro e w1 ⟨rfl,m⟩;go_wp2_with fail
 all_goals go_ret
 all_goals exact⟨rfl,((aS _ _).alloc (by simp) _).trans (m.mono (by simp;omega))⟩
theorem CK(n:Nat):JF n:=by
 induction n with
 | zero=>intro x j c p y m;exact m.elim
 | succ n ih=>
  intro x j c p y m a f;cases j with
  | zero=>exact a.elim
  | succ j=>
  obtain⟨⟨k,E,C⟩,⟨q,pc⟩,u⟩:=x;obtain⟨⟨B,F,D⟩,⟨r,w⟩,v⟩:=c;obtain⟨⟨_,_,_,z,s⟩,d⟩:=m;obtain⟨⟨_,_,_,A,t⟩,e⟩:=a;simp only at z s d A t e;unfold maxLen at s t;refine IW y k B E F C D q r u.length v.length pc w _ (λG h=>qn n j ih u v q r pc w p G ?_ ?_ (by omega) (by omega) (aF f h.size))
  ·rcases d with d|⟨b,o,l,g,d⟩
   ·exact aj d
   ·exact ak ⟨b,o,l,g,λi c a=>⟨(d i c a).1.below (h.mono f) g,(d i c a).2.below (h.mono f)⟩⟩
  ·rcases e with e|⟨b,o,l,g,e⟩
   ·exact aj e
   ·exact ak ⟨b,o,l,g,λi c a=>⟨(e i c a).1.below (h.mono f) g,(e i c a).2.below (h.mono f)⟩⟩
theorem vt(x y:Int):(x<y/\lX x y=-1)\/(x=y/\lX x y=0)\/(y<x/\lX x y=1):=by
 unfold lX;by_cases a:x<y
 ·rw[if_pos a];exact aj ⟨a,rfl⟩
 ·rw[if_neg a];by_cases b:y<x
  ·rw[if_pos b];exact ak (ak ⟨b,rfl⟩)
  ·rw[if_neg b];exact ak (aj ⟨by omega,rfl⟩)
theorem JU:(x y:List UInt8)->Op.bytesLess x y=true->Op.bytesLess y x=false
 | _,[],c=>by simp[Op.bytesLess]at c
 | [],_::_,_=>by simp[Op.bytesLess]
 | a::x,b::y,c=>by
  simp only[Op.bytesLess,iT,cw,aK,cv]at c;simp only[Op.bytesLess,Bool.or_eq_false_iff,decide_eq_false_iff_not,pJ,g9];rcases c with c|⟨rfl,c⟩
  ·rw[pU]at c;refine⟨by rw[pU];omega,aj λe=>by subst e;omega⟩
  ·exact⟨by rw[pU];omega,ak (JU x y c)⟩
theorem JV:(x y:List UInt8)->Op.bytesLess x y=false->Op.bytesLess y x=false->x=y
 | [],[],_,_=>rfl
 | [],_::_,h,_=>by simp[Op.bytesLess]at h
 | _::_,[],_,h=>by simp[Op.bytesLess]at h
 | a::x,b::y,h,h'=>by
  simp only[Op.bytesLess,Bool.or_eq_false_iff,decide_eq_false_iff_not,pJ,g9]at h h';obtain⟨c,d⟩:=h;obtain⟨f,g⟩:=h';have e:a=b:=by
   rw[pU]at c f;exact UInt8.toNat_inj.1 (by omega)
  subst e;rw[JV x y (d.resolve_left (λn=>n rfl)) (g.resolve_left (λn=>n rfl))]
theorem xP(l:List UInt8):Op.bytesLess l l=false:=by
 induction l with
 | nil=>rfl
 | cons a l ih=>simp[Op.bytesLess,ih]
theorem J8(x y:aq):(Op.bytesLess x.toList y.toList=true/\xt x y=-1)\/(x.toList=y.toList/\xt x y=0)\/(Op.bytesLess y.toList x.toList=true/\xt x y=1):=by
 unfold xt;cases h:Op.bytesLess x.toList y.toList
 ·by_cases a:x.toList=y.toList
  ·rw[a];simp
  ·have c:Op.bytesLess y.toList x.toList=true:=by
     cases h2:Op.bytesLess y.toList x.toList
     ·exact(a (JV _ _ h h2)).elim
     ·rfl
   have b:(x.toList==y.toList)=false:=by simpa using a
   rw[b];simp[c]
 ·simp
theorem dA{x:Tm 0}(c:∀a∈aC 0 x,cQ a=true):False:=by
 have:=c ((0,0,.empty),(none,0,0)) (by simp[aC]);rcases kP _ this with b|b|b|b|b|⟨b,_⟩<;>simp at b
theorem yx{h β:Type}(f:h->β->Int)(g:h->β->Bool):(p:List h)->(q:List β)->p.length=q.length->(∀a∈p,∀b∈q,(f a b=0 ↔ g a b=true))->(qd f p q=0 ↔ aG g p q=true)
 | [],[],_,_=>by simp[qd,aG]
 | [],_::_,e,_=>by simp at e
 | _::_,[],e,_=>by simp at e
 | a::p,b::q,e,H=>by
  have i:=H a (by simp) b (by simp);have l:=yx f g p q (by simpa using e) (λj m k n=>H j (by simp[m]) k (by simp[n]));simp only[qd,aG,aK];by_cases d:f a b=0
  ·rw[if_pos d,l];exact⟨λc=>⟨i.1 d,c⟩,λc=>c.2⟩
  ·rw[if_neg d];exact⟨λc=>(d c).elim,λc=>(d (i.2 c.1)).elim⟩
theorem e9(x:Nd)(b:cQ x=true):(x.1.1≠2->x.1.2.2.toList=[])/\(x.1.1=2->x.1.2.1=0)/\(x.1.1=4->x.1.2.1=0)/\(x.1.1=6->x.1.2.1=0)/\(x.1.1≠4->x.2.2.1=0):=by
 have c:=kP x b;unfold cQ at b;rcases c with a|a|a|a|a|⟨a,d⟩
 all_goals (rw[a]at b ⊢;simp at b ⊢;simp[b])
theorem Co:(n:Nat)->(x:Tm n)->(m:Nat)->(y:Tm m)->(∀a∈aC n x,cQ a=true)->(∀a∈aC m y,cQ a=true)->(yw n x m y=0 ↔ aB n x m y=true)
 | 0,_,_,_,f,_=>(dA f).elim
 | _+1,_,0,_,_,f=>(dA f).elim
 | n+1,x,m+1,y,hx,hy=>by
  have l:=e9 _ (hx (x.1,(x.2.1.1,x.2.2.length,x.2.1.2)) (by simp[aC]));have j:=e9 _ (hy (y.1,(y.2.1.1,y.2.2.length,y.2.1.2)) (by simp[aC]));have B:=kP _ (hx (x.1,(x.2.1.1,x.2.2.length,x.2.1.2)) (by simp[aC]));have H:=λe=>yx (λa b=>yw n a m b) (λa b=>aB n a m b) x.2.2 y.2.2 e (λa F b G=>Co n a m b (λd v=>hx d (pw F v)) (λd v=>hy d (pw G v)));simp only at l j B;simp only[yw,aB];have E:=J8 x.1.2.2 y.1.2.2;have L:=vt x.1.2.1 y.1.2.1;have M:=vt x.1.1 y.1.1;have N:=vt x.2.2.length y.2.2.length;obtain⟨⟨k,C,s⟩,⟨a,c⟩,p⟩:=x;obtain⟨⟨A,w,I⟩,⟨J,K⟩,q⟩:=y;simp only at*;clear hx hy;by_cases e:k=A
  ·subst e;rw[if_pos rfl];have o:k≠4->p=[]/\q=[]:=λf=>⟨bL (l.2.2.2.2 f),bL (j.2.2.2.2 f)⟩;have r:k≠2->s.toList=[]/\I.toList=[]:=λf=>⟨l.1 f,j.1 f⟩;rcases B with g|g|g|g|g|⟨g,D⟩
   ·subst g;obtain⟨rfl,rfl⟩:=o (by decide);obtain⟨h,i⟩:=r (by decide);rw[if_pos (by decide),h,i];simp[aG];omega
   ·subst g;obtain⟨rfl,rfl⟩:=o (by decide);have z:C=0:=l.2.1 rfl;have t:w=0:=j.2.1 rfl;subst z t;rw[if_neg (by decide),if_pos rfl];simp[aG];rcases E with⟨f,u⟩|⟨f,u⟩|⟨f,u⟩
    ·refine⟨λe=>by omega,λe=>?_⟩;rw[e,xP]at f;cases f
    ·exact⟨λ_=>f,λ_=>u⟩
    ·refine⟨λe=>by omega,λe=>?_⟩;rw[e,xP]at f;cases f
   ·subst g;obtain⟨rfl,rfl⟩:=o (by decide);obtain⟨h,i⟩:=r (by decide);rw[if_pos (by decide),h,i];simp[aG];omega
   ·subst g;obtain⟨h,i⟩:=r (by decide);have z:C=0:=l.2.2.1 rfl;have t:w=0:=j.2.2.1 rfl;subst z t;rw[if_neg (by decide),if_neg (by decide),if_pos rfl,h,i];by_cases el:p.length=q.length
    ·rw[if_pos el,H el];simp
    ·rw[if_neg el,wK _ _ _ el];simp;omega
   ·subst g;obtain⟨rfl,rfl⟩:=o (by decide);obtain⟨h,i⟩:=r (by decide);rw[if_pos (by decide),h,i];simp[aG];omega
   ·subst g;obtain⟨rfl,rfl⟩:=o (by decide);obtain⟨h,i⟩:=r (by decide);have t:w=0:=j.2.2.2.1 rfl;subst D t;rw[if_neg (by decide),if_neg (by decide),if_neg (by decide),h,i];simp[aG]
  ·rw[if_neg e];have:(k==A)=false:=by simpa using e
   rw[this];simp;omega
abbrev An:=(n:Nat)×Tm n
def cg:An->Int
 | ⟨0,_⟩=>0
 | ⟨_+1,x⟩=>x.1.1
def eL(x y:An):Bool:=aB x.1 x.2 y.1 y.2
def Gx(B:Nat)(w:ag)(x:An):Prop:=In B w x.1 x.2
def aJ(x:An):Prop:=∀a∈aC x.1 x.2,cQ a=true
def jg{a β S:Type}(f:a->β->S->Option S):List a->List β->S->Option S
 | x::p,y::q,b=>(f x y b).bind (jg f p q)
 | _,_,b=>some b
def vz(b:List An)(i:Nat)(t:An):Option (List An):=
 match b[i]? with
 | some a=>if cg a=6 then some (b.set i t)else if eL a t then some b else none
 | none=>none
def iG:(n:Nat)->Tm n->(m:Nat)->Tm m->List An->Option (List An)
 | n+1,p,m+1,t,b=>
  if p.1.1=6 then some b
  else if p.1.1=5 then vz b p.1.2.1.toNat ⟨m+1,t⟩
  else if p.1.1=4 then
   if t.1.1=4/\p.2.2.length=t.2.2.length then jg (λx y b=>iG n x m y b) p.2.2 t.2.2 b else none
  else if aB (n+1) p (m+1) t then some b else none
 | _,_,_,_,_=>none
def QP(x y:An)(b:List An):Option (List An):=iG x.1 x.2 y.1 y.2 b
def lL:List (An×An)->List An->Option (List An)
 | [],b=>some b
 | (x,y)::r,b=>(QP x y b).bind (lL r)
def gP(n m:Nat)(p:List (Tm n))(q:List (Tm m)):List (An×An):=List.zipWith (λx y=>(⟨n,x⟩,⟨m,y⟩)) p q
def uV(P:An->Prop):Prop:=∀(n:Nat)(x:Tm (n+1))(y:Tm n),P ⟨n+1,x⟩->y∈x.2.2->P ⟨n,y⟩
theorem xZ{a β S:Type}(f:a->β->S->Option S)(Q:S->Prop):(p:List a)->(q:List β)->(∀x∈p,∀y∈q,∀b c,Q b->f x y b=some c->Q c)->∀b c,Q b->jg f p q b=some c->Q c
 | [],_,_,b,c,hb,h=>by simp[jg]at h;rw[<-h];exact hb
 | _::_,[],_,b,c,hb,h=>by simp[jg]at h;rw[<-h];exact hb
 | x::p,y::q,hf,b,c,hb,h=>by
  simp only[jg]at h;obtain⟨d,e,g⟩:=bI.1 h;exact xZ f Q p q (λx' i k j=>hf x' (bW _ i) k (bW _ j)) d c (hf x (by simp) y (by simp) b d hb e) g
theorem Hd(P:An->Prop)(b c:List An)(i:Nat)(t:An)(f:P t)(d:b.length=4/\∀y∈b,P y)(a:vz b i t=some c):c.length=4/\∀y∈c,P y:=by
 unfold vz at a;split at a
 ·split at a
  ·obtain rfl:=az a;refine⟨by simpa using d.1,λy g=>?_⟩;rcases tC g with e|rfl
   ·exact d.2 y e
   ·exact f
  ·split at a
   ·obtain rfl:=az a;exact d
   ·cases a
 ·cases a
theorem lK(P:An->Prop)(d:uV P):(n:Nat)->(p:Tm n)->(m:Nat)->(t:Tm m)->P ⟨m,t⟩->∀b c,(b.length=4/\∀y∈b,P y)->iG n p m t b=some c->(c.length=4/\∀y∈c,P y)
 | 0,_,_,_,_,_,_,_,h=>by simp[iG]at h
 | n+1,_,0,_,_,_,_,_,h=>by simp[iG]at h
 | n+1,p,m+1,t,ht,b,c,a,h=>by
  simp only[iG]at h;split at h
  ·obtain rfl:=az h;exact a
  split at h
  ·exact Hd P b c _ _ ht a h
  split at h
  ·split at h
   ·exact xZ _ _ p.2.2 t.2.2 (λx g y f b c a e=>lK P d n x m y (d m t y ht f) b c a e) b c a h
   ·cases h
  ·split at h
   ·obtain rfl:=az h;exact a
   ·cases h
theorem Hb{a β S:Type}(f:a->β->S->Option S)(p:List a)(q:List β)(k:Nat)(x:a)(y:β)(h:p[k]?=some x)(i:q[k]?=some y)(b:S):jg f (p.drop k) (q.drop k) b=(f x y b).bind (jg f (p.drop (k+1)) (q.drop (k+1))):=by
 obtain⟨e,c⟩:=aZ.1 h;obtain⟨g,d⟩:=aZ.1 i;rw[eX e,eX g,c,d];rfl
theorem Li(B:Nat)(w:ag):uV (Gx B w):=by
 intro n x h d c;rcases d.2 with a|⟨b,o,i,j,a⟩
 ·have e:x.2.2=[]:=a;rw[e]at c;cases c
 ·obtain⟨g,f⟩:=dp c;exact(a g h f).2
theorem bj:uV aJ:=λ_ _ _ b d a c=>b a (pw d c)
theorem ID{P Q:An->Prop}(c:uV P)(d:uV Q):uV λx=>P x/\Q x:=λn x y a b=>⟨c n x y a.1 b,d n x y a.2 b⟩
theorem tL(s:aq)(w:ag)(l:s.size<=9223372036854775807):ao 110 #[af s] w λe w'=>e=.returned (.bool (gF s.data.toList))/\w'=w:=by
 go_enter func110,ntmps110;go_wp2_with fail
 go_loop [3] (λb=>∃k:Nat,k<=s.size/\b=ab k/\Hid (gF (s.data.toList.take k)=true)) (λb=>s.size-(intOf b).toNat)
 case atStart=>exact⟨0,aM _,rfl,by simp[Hid,gF]⟩
 case round=>
  obtain⟨k,j,rfl,f⟩:=hrel;by_cases i:k<s.size
  ·have c:=ap (vU s k i);have d:Hid (Ae s[k]=false->false=gF s.data.toList):=λg=>by
    have a:gF s.data.toList=(gF (s.data.toList.take (k+1)) && gF (s.data.toList.drop (k+1))):=by
     conv=>lhs;rw[<-iA (k+1) s.data.toList]
     simp only[gF,lf]
    rw[a,c.out,g];simp
   by_cases h:97<=(s[k].toNat:Int)
   ·by_cases a:(s[k].toNat:Int)<=122
    ·go_wp2_with fail
     go_round
     case rel=>exact⟨k+1,by omega,by go_num,by simp only[Hid];rw[c.out,f.out];simp[Ae,h,a]⟩
     case measure=>simp[intOf];omega
    ·go_wp2_with fail
     go_ret
     exact⟨b9 (d (by simp[Ae,a])),rfl⟩
   ·go_wp2_with fail
    go_ret
    exact⟨b9 (d (by simp[Ae];omega)),rfl⟩
  ·go_wp2_with fail
   go_ret
   exact⟨b9 (by rw[<-f.out,bD (by simp;omega)]),rfl⟩
theorem jm(s:aq)(w:ag)(d:s.size<=9223372036854775807):ao 71 #[af s] w λe w'=>e=.returned (.bool (ex s))/\w'=w:=by
 by_cases b:(1:Int)<=s.size
 ·by_cases c:(s.size:Int)<=8
  ·have a:Hid (ex s=gF s.data.toList):=by simp only[Hid,ex,rk];simp[b,c]
   go_enter func71,ntmps71;go_wp2_with (go_at_call 110;refine(tL _ _ d).mono ?_;rintro e w' ⟨rfl,rfl⟩)
   all_goals go_ret
   all_goals exact⟨b9 (by rw[a.out]),rfl⟩
  ·have a:Hid (ex s=false):=by simp only[Hid,ex,rk];simp[c]
   go_enter func71,ntmps71;go_wp2_with fail
   go_ret
   exact⟨b9 (by rw[a.out]),rfl⟩
 ·have a:Hid (ex s=false):=by simp only[Hid,ex,rk];simp[b]
  go_enter func71,ntmps71;go_wp2_with fail
  go_ret
  exact⟨b9 (by rw[a.out]),rfl⟩
def bO(n:Nat)(x:Tm (n+1)):Nd:=(x.1,(x.2.1.1,x.2.2.length,x.2.1.2))
def cr:(n:Nat)->Tm n->Bool
 | 0,_=>false
 | n+1,x=>cQ (bO n x) && (!(x.1.1==4) || x.2.2.all λy=>cr n y)
def Oj(n:Nat):Prop:=∀(x:Tm n)(B:Nat)(w:ag),In B w n x->B<=w.heap.size->
 ao 86 #[dG n x] w λe w'=>e=.returned (.bool (cr n x))/\am w w'
theorem kH(w:ag)(k b:Int)(s:aq)(a:ar)(l c:Nat)(d:k=1\/k=3\/k=5\/k=6):ao 86 #[.agg #[ab k,ab b,af s,ae a l c]] w λe w'=>e=.returned (.bool (cQ ((k,b,s),(a,l,c))))/\am w w':=by
 rcases d with rfl|rfl|rfl|rfl
 all_goals
  go_enter func86,ntmps86;go_wp2
  all_goals go_ret
  all_goals refine⟨b9 ?_,by go_grown⟩
  all_goals go_light
  all_goals first|(simp[cQ,rk, *];done)|(simp[cQ,rk, *];omega)
theorem BJ(w:ag)(b:Int)(s:aq)(a:ar)(l c:Nat)(d:s.size<=9223372036854775807):ao 86 #[.agg #[ab 2,ab b,af s,ae a l c]] w λe w'=>e=.returned (.bool (cQ ((2,b,s),(a,l,c))))/\am w w':=by
 go_enter func86,ntmps86;go_wp2_with (go_at_call 71;refine(jm _ _ d).mono ?_;rintro e w' ⟨rfl,rfl⟩)
 all_goals go_ret
 all_goals refine⟨b9 ?_,by go_grown⟩
 all_goals go_light
 all_goals first|(simp[cQ, *];done)|(simp[cQ, *];omega)
theorem BK(w:ag)(k j:Int)(s:aq)(a:ar)(l c:Nat)(b:¬k=1)(d:¬k=2)(f:¬k=3)(g:¬k=4)(h:¬k=5)(i:¬k=6):ao 86 #[.agg #[ab k,ab j,af s,ae a l c]] w λe w'=>e=.returned (.bool (cQ ((k,j,s),(a,l,c))))/\am w w':=by
 have m:cQ ((k,j,s),(a,l,c))=false:=by simp[cQ,b,d,f,g,h,i]
 rw[m];have n:(k==1)=false:=by simpa using b
 have o:(k==2)=false:=by simpa using d
 have p:(k==3)=false:=by simpa using f
 have q:(k==4)=false:=by simpa using g
 have r:(k==5)=false:=by simpa using h
 have t:(k==6)=false:=by simpa using i
 clear b d f g h i m;go_enter func86,ntmps86;go_wp2_with fail
 go_ret
 exact⟨rfl,by go_grown⟩
theorem A8(n:Nat)(ih:Oj n)(p:List (Tm n))(len:Nat)(z:Hid (p.length=len))(a:ar)(pc B:Nat)(w:ag)(f:Hid (p=[]\/∃b o,a=some ⟨b,o,none⟩/\b<B/\∀(i:Nat)(y:Tm n),p[i]?=some y->dH w b (o+i*4) n y/\In B w n y))(K:len<=9223372036854775807)(q:B<=w.heap.size):ao 125 #[ae a len pc] w λe w'=>e=.returned (.bool (decide ((len:Int)<=8) && p.all λy=>cr n y))/\am w w':=by
 by_cases G:(8:Int)<len
 ·have h:decide ((len:Int)<=8)=false:=by simp;omega
  rw[h];go_enter func125,ntmps125;go_wp2_with fail
  go_ret
  exact⟨rfl,aA _ _⟩
 have h:decide ((len:Int)<=8)=true:=by simp;omega
 rw[h,eV];clear h;go_enter func125,ntmps125;go_wp2_with fail;go_loopw [10] (λi wr=>∃k:Nat,k<=len/\i=ab k/\am w wr/\Hid (((p.drop k).all λy=>cr n y)=p.all λy=>cr n y)) (λi _=>len-(intOf i).toNat)
 case atStart=>exact⟨0,by omega,rfl,aA _ _,rfl⟩
 case round=>
  obtain⟨k,H,rfl,c,r⟩:=hrel;by_cases D:k<len
  ·obtain⟨x,j⟩:∃x,p[k]?=some x:=⟨p[k]'(by rw[z.out];exact D),aN _⟩;have s:Hid (((p.drop k).all λy=>cr n y)=(cr n x && (p.drop (k+1)).all λy=>cr n y)):=by
    obtain⟨g,C⟩:=aZ.1 j;rw[eX g,C];rfl
   rcases f.out with f|⟨L,po,rfl,E,f⟩
   ·subst f;simp at j
   obtain⟨l,m⟩:=f k x j;replace l:=l.below (c.mono q) E;replace m:=m.below (c.mono q);clear f j;cases n with
   | zero=>exact l.elim
   | succ n=>
   obtain⟨M,N,O,P⟩:=l;have t:B<=wr.heap.size:=aF q c.size
   have A:Hid (∀d,am wr d->ao 86 #[.agg #[ab x.1.1,ab x.1.2.1,af x.1.2.2,ae x.2.1.1 x.2.2.length x.2.1.2]] d λe w'=>e=.returned (.bool (cr (n+1) x))/\am d w'):=
    λd g=>ih x B d (m.below (g.mono t)) (aF t g.size)
   clear ih m;generalize x.2.2.length=Q at*;generalize cr (n+1) x=F at*;have I:(0:Int)<=(k:Int):=by omega
   have J:(k:Int)<(len:Int):=by omega
   go_wp2_with fail;refine(A _ (aS _ _)).mono ?_;rintro e d ⟨rfl,u⟩;have v:am w d:=(c.trans ((aS _ _).mono c.size)).trans (u.mono (by have:=c.size;simp;omega));clear u;cases F with
   | true=>
    go_wp2_with fail;go_roundw
    case rel=>exact⟨k+1,by omega,by go_num,v,by rw[<-r.out,s.out];rfl⟩
    case measure=>simp[intOf];omega
   | false=>
    go_wp2_with fail
    go_ret
    exact⟨b9 (by rw[<-r.out,s.out];rfl),v⟩
  ·go_wp2_with fail
   go_ret
   refine⟨b9 ?_,c⟩;rw[<-r.out,gt (by rw[z.out];omega)];rfl
theorem DY(w:ag)(b:Int)(s:aq)(a:ar)(l c:Nat)(r:Bool)(H:Hid (∀w1:ag,am w w1->ao 125 #[ae a l c] w1 λe w'=>e=.returned (.bool (decide ((l:Int)<=8) && r))/\am w1 w')):ao 86 #[.agg #[ab 4,ab b,af s,ae a l c]] w λe w'=>e=.returned (.bool (cQ ((4,b,s),(a,l,c)) && r))/\am w w':=by
 have f:cQ ((4,b,s),(a,l,c))=(s.toList.isEmpty && b==0 && decide ((l:Int)<=8)):=by simp[cQ]
 rw[f];generalize decide ((l:Int)<=8)=h at*;clear f;cases h1:b==0
 ·go_enter func86,ntmps86;go_wp2_with fail
  go_ret
  exact⟨b9 (by simp),by go_grown⟩
 cases h2:s.toList.isEmpty
 ·go_enter func86,ntmps86;go_wp2_with fail
  go_ret
  exact⟨b9 (by simp),by go_grown⟩
 go_enter func86,ntmps86;go_wp2_with fail;refine(H _ (aS _ _)).mono ?_;rintro e w1 ⟨rfl,d⟩;have g:am w w1:=(aS _ _).trans (d.mono (by simp));clear d;go_wp2_with fail
 all_goals go_ret
 all_goals exact⟨b9 (by simp),g⟩
theorem DX(n:Nat):Oj n:=by
 induction n with
 | zero=>intro x q c l;exact l.elim
 | succ n ih=>
  intro x q c l i;obtain⟨⟨k,e,d⟩,⟨a,pc⟩,p⟩:=x;obtain⟨⟨_,_,t,D,s⟩,f⟩:=l;simp only at t D s f;unfold maxLen at s t;show ao 86 #[.agg #[ab k,ab e,af d,ae a p.length pc]] c λh E=>h=.returned (.bool (cQ ((k,e,d),(a,p.length,pc)) && (!(k==4) || p.all λg=>cr n g)))/\am c E;by_cases m:k=4
  ·subst m;refine DY c e d a p.length pc _ (λF j=>A8 n ih p p.length rfl a pc q F ?_ (by omega) (aF i j.size));rcases f with f|⟨b,o,h,r,f⟩
   ·exact aj f
   ·exact ak ⟨b,o,h,r,λv g u=>⟨(f v g u).1.below (j.mono i) r,(f v g u).2.below (j.mono i)⟩⟩
  ·have C:(!(k==4) || p.all λg=>cr n g)=true:=by simp[m]
   rw[C,Bool.and_true];by_cases w:k=1
   ·exact kH c k e d a p.length pc (aj w)
   by_cases y:k=2
   ·subst y;exact BJ c e d a p.length pc (by omega)
   by_cases z:k=3
   ·exact kH c k e d a p.length pc (ak (aj z))
   by_cases A:k=5
   ·exact kH c k e d a p.length pc (ak (ak (aj A)))
   by_cases B:k=6
   ·exact kH c k e d a p.length pc (ak (ak (ak B)))
   ·exact BK c k e d a p.length pc w y z m A B
def cD(P:aO):(n:Nat)->Tm n->Prop
 | 0,_=>False
 | n+1,x=>x.2.2=[]\/∃b o,x.2.1.1=some ⟨b,o,none⟩/\P b/\∀(i:Nat)(y:Tm n),x.2.2[i]?=some y->cD P n y
theorem cD.mono{P Q:aO}(a:∀b,P b->Q b):{n:Nat}->{x:Tm n}->cD P n x->cD Q n x
 | 0,_,k=>k
 | _+1,_,k=>by
  rcases k with k|⟨b,o,e,c,k⟩
  ·exact aj k
  ·exact ak ⟨b,o,e,a b c,λi y d=>(k i y d).mono a⟩
theorem bH{w w':ag}{b:Nat}(a:w'.heap[b]?=w.heap[b]?)(o:Nat):w'.cell? ⟨b,o,none⟩=w.cell? ⟨b,o,none⟩:=by
 simp[World.cell?,a]
theorem dH.block{w w':ag}{b o:Nat}(a:w'.heap[b]?=w.heap[b]?):{n:Nat}->{x:Tm n}->dH w b o n x->dH w' b o n x
 | 0,_,k=>k
 | _+1,_,k=>by
  obtain⟨c,d,e,f⟩:=k;exact⟨(bH a _).trans c,(bH a _).trans d,(bH a _).trans e,(bH a _).trans f⟩
theorem In.off{P:aO}{w w':ag}(f:∀b,P b->w'.heap[b]?=w.heap[b]?){B:Nat}:{n:Nat}->{x:Tm n}->cD P n x->In B w n x->In B w' n x
 | 0,_,_,k=>k
 | _+1,_,p,k=>by
  obtain⟨m,a⟩:=k;refine⟨m,?_⟩;rcases a with a|⟨b,o,e,j,a⟩
  ·exact aj a
  ·rcases p with p|⟨q,r,c,l,p⟩
   ·exact aj p
   ·rw[e]at c;injection c with c;injection c with g h;subst g h;exact ak ⟨b,o,e,j,λi y d=>⟨(a i y d).1.block (f b l),(a i y d).2.off f (p i y d)⟩⟩
theorem In.offB{P:aO}{B:Nat}{w:ag}:{n:Nat}->{x:Tm n}->cD P n x->In B w n x->cD (λb=>P b/\b<B) n x
 | 0,_,p,_=>p
 | _+1,_,p,k=>by
  obtain⟨_,a⟩:=k;rcases p with p|⟨b,o,e,h,p⟩
  ·exact aj p
  ·rcases a with a|⟨l,m,c,j,a⟩
   ·exact aj a
   ·rw[e]at c;injection c with c;injection c with f g;subst f g;exact ak ⟨b,o,e,⟨h,j⟩,λi y d=>In.offB (p i y d) (a i y d).2⟩
def gK:(n:Nat)->Tm n->Nd
 | 0,_=>((0,0,⟨#[]⟩),(none,0,0))
 | n+1,x=>bO n x
theorem FW{w:ag}{base g c L:Nat}{n:Nat}{l:List (Tm (n+1))}(a:w.ownsRow base 31 4 (ae (some ⟨g,0,none⟩) L c) L (cO (l.map (gK (n+1)))))(k:Nat)(x:Tm (n+1))(d:l[k]?=some x):dH w g (0+k*4) (n+1) x:=by
 have b:=EA a k (gK (n+1) x) (by simp[d]);rw[cT];exact b
def rB(base:Nat)(n:Nat)(l:List (Tm n))(v:au)(w:ag):Prop:=
 w.ownsRow base 31 4 v l.length (cO (l.map (gK n)))/\∀a∈l,In w.heap.size w n a/\cD (λb=>base<=b/\v.ownBlock≠some b) n a
theorem rB.tup{base n:Nat}{l:List (Tm (n+1))}{v:au}{w:ag}(m:rB base (n+1) l v w):∃a c,v=ae a l.length c/\cD (λb=>base<=b) (n+2) ((4,0,⟨#[]⟩),(a,c),l)/\In w.heap.size w (n+2) ((4,0,⟨#[]⟩),(a,c),l):=by
 obtain⟨i,j⟩:=m;have d:dN 4/\dN 0/\(⟨#[]⟩:aq).size<=maxLen:=⟨⟨by omega,by omega⟩,⟨by omega,by omega⟩,aM _⟩;have e:=i;obtain⟨y,e⟩:=e;rcases e with⟨e,o⟩|⟨f,cap,x,rfl,r,s,q,u,A,z⟩
 ·have:l=[]:=bL o;subst this;refine⟨none,0,by rw[e];rfl,aj rfl,⟨d.1,d.2.1,d.2.2,aM _,aM _⟩,aj rfl⟩
 ·have t:f<w.heap.size:=(aI.1 s).1;refine⟨some ⟨f,0,none⟩,cap,rfl,ak ⟨f,0,rfl,r,λk h g=>((j h (aL g)).2).mono λb p=>p.1⟩,⟨d.1,d.2.1,d.2.2,q,u⟩,ak ⟨f,0,rfl,t,λk h g=>⟨FW i k h g,(j h (aL g)).1⟩⟩⟩
def tO(a:An):Nd:=gK a.1 a.2
def gz(l:List An):List au:=cO (l.map tO)
theorem lH(l:List An):(gz l).length=l.length*4:=by simp[gz,oN]
theorem A5(l:List An):∀a∈gz l,a.oneCell'=true:=tP _
def nL(base:Nat)(g c:Nat)(b:List An)(w:ag):Prop:=w.ownsRow base 31 4 (ae (some ⟨g,0,none⟩) b.length c) b.length (gz b)
theorem nL.cells{base g c:Nat}{b:List An}{w:ag}(a:nL base g c b w)(i:Nat)(y:An)(d:b[i]?=some y):ai w g (i*4) (ab (tO y).1.1)/\ai w g (i*4+1) (ab (tO y).1.2.1)/\ai w g (i*4+2) (af (tO y).1.2.2)/\ai w g (i*4+3) (.slice (tO y).2.1 (tO y).2.2.1 (tO y).2.2.2):=
 EA (l:=b.map tO) a i (tO y) (by simp[d])
theorem nL.lt{base g c:Nat}{b:List An}{w:ag}(a:nL base g c b w):base<=g/\g<w.heap.size:=World.ownsRow.lt a g rfl
theorem nL.kept{base g c:Nat}{b:List An}{w w':ag}(d:nL base g c b w){row:da}(e:w.grownBy w' row)(f:row≠some g):nL base g c b w':=
 pW d e (ak λa=>f a.symm)
theorem dg{w w':ag}(a:am w w')(row:da):w.grownBy w' row:=⟨a.os,a.tape,a.output,a.size,λk b _=>a.block k b⟩
theorem nL.below{base g c:Nat}{b:List An}{w w':ag}(a:nL base g c b w)(d:am w w'):nL base g c b w':=a.kept (dg d none) (by simp)
theorem oJ{w w':ag}{g B:Nat}(a:w.grownBy w' (some g))(b:B<=g)(c:g<w.heap.size):Below B w w':=⟨a.os,a.tape,a.output,a.size,λk d=>a.block k (by omega) (by simp;omega)⟩
theorem mj{w w1 w2:ag}{row:da}(a:w.grownBy w1 row)(k:w1.grownBy w2 row):w.grownBy w2 row:=
 ⟨k.os.trans a.os,k.tape.trans a.tape,k.output.trans a.output,aF a.size k.size,λb c d=>(k.block b (aW c a.size) d).trans (a.block b c d)⟩
theorem nL.free{base g c:Nat}{b:List An}{w:ag}(e:nL base g c b w)(j:Nat):w.frozen? ⟨g,j,none⟩=false:=by
 obtain⟨n,d⟩:=e;rcases d with⟨d,_⟩|⟨m,cap,i,h,q,f,o,r,s,p⟩
 ·simp at d
 ·injection h with a k l;injection a with a;injection a with a _;subst a;simp[World.frozen?,f]
def df(w:ag)(g o:Nat)(v0 v1 v2 v3:au):ag:=(((w.setCell ⟨g,o,none⟩ v0).setCell ⟨g,o+1,none⟩ v1).setCell ⟨g,o+2,none⟩ v2).setCell ⟨g,o+3,none⟩ v3
def jT(w:ag)(g o:Nat)(x:Nd):ag:=df w g o (ab x.1.1) (ab x.1.2.1) (af x.1.2.2) (ae x.2.1 x.2.2.1 x.2.2.2)
theorem jM{w:ag}{base e size g L c:Nat}{xs:cX}(i:w.ownsRow base e size (ae (some ⟨g,0,none⟩) L c) L xs)(j:Nat)(d:au):(w.setCell ⟨g,j,none⟩ d).ownsRow base e size (ae (some ⟨g,0,none⟩) L c) L (xs.set j d):=by
 obtain⟨k,b⟩:=i;refine⟨by simpa using k,?_⟩;rcases b with⟨b,_⟩|⟨t,cap,f,q,n,o,l,p,r,m⟩
 ·simp at b
 ·injection q with a s h;injection a with a;injection a with a _;subst a h;refine ak ⟨g,c,f.setIfInBounds j d,rfl,n,?_,l,p,by simpa using r,?_⟩
  ·simp[World.setCell,bT,o]
  ·rw[<-m];simp[List.take_set]
theorem tQ:(l:List Nd)->(i:Nat)->(x:Nd)->i<l.length-> ((((cO l).set (i*4) (ab x.1.1)).set (i*4+1) (ab x.1.2.1)).set (i*4+2) (af x.1.2.2)).set (i*4+3) (ae x.2.1 x.2.2.1 x.2.2.2)=cO (l.set i x)
 | [],i,x,h=>by simp at h
 | y::l,0,x,_=>by simp[cO,uk]
 | y::l,i+1,x,h=>by
  have ih:=tQ l i x (by simpa using h);have e:cO (y::l)=uk y++cO l:=rfl;have b:cO ((y::l).set (i+1) x)=uk y++cO (l.set i x):=rfl;have a:(uk y).length=4:=rfl;rw[e,b,<-ih];rw[iV _ _ (by rw[a];omega),iV _ _ (by rw[a];omega),iV _ _ (by rw[a];omega),iV _ _ (by rw[a];omega),a];rw[show (i+1)*4-4=i*4 by omega,show (i+1)*4+1-4=i*4+1 by omega,show (i+1)*4+2-4=i*4+2 by omega,show (i+1)*4+3-4=i*4+3 by omega]
theorem nL.put{base g c:Nat}{b:List An}{w:ag}(d:nL base g c b w)(i:Nat)(t:An)(e:i<b.length):nL base g c (b.set i t) (jT w g (i*4) (tO t)):=by
 have a:=jM (jM (jM (jM d (i*4) (ab (tO t).1.1)) (i*4+1) (ab (tO t).1.2.1)) (i*4+2) (af (tO t).1.2.2)) (i*4+3) (.slice (tO t).2.1 (tO t).2.2.1 (tO t).2.2.2);unfold gz at a;rw[tQ (b.map tO) i (tO t) (by simpa using e)]at a;unfold nL gz;rw[List.map_set,List.length_set];exact a
theorem bm{w:ag}{g b o:Nat}(c:b≠g)(v0 v1 v2 v3:au):(df w g o v0 v1 v2 v3).heap[b]?=w.heap[b]? :=by
 have d:g≠b:=λa=>c a.symm;simp[df,World.setCell,bT,d]
theorem bG{w:ag}{g o:Nat}(v0 v1 v2 v3:au):(df w g o v0 v1 v2 v3).heap.size=w.heap.size:=by simp[df,World.setCell]
theorem EI{w:ag}{g o:Nat}(v0 v1 v2 v3:au):w.grownBy (df w g o v0 v1 v2 v3) (some g):=
 ⟨rfl,rfl,rfl,dT (bG _ _ _ _).symm,λk _ b=>bm (λa=>b (by rw[a])) _ _ _ _⟩
theorem FD{w w':ag}{v0 v1 v2 v3:au}{t:TypeId}(c:Below (w.alloc (.cells #[v0,v1,v2,v3] t)).heap.size (w.alloc (.cells #[v0,v1,v2,v3] t)) w'):(ai w' w.heap.size 0 v0/\ai w' w.heap.size 1 v1/\ai w' w.heap.size 2 v2/\ai w' w.heap.size 3 v3)/\ (w'.frozen? ⟨w.heap.size,0,none⟩=false/\w'.frozen? ⟨w.heap.size,1,none⟩=false/\w'.frozen? ⟨w.heap.size,2,none⟩=false/\w'.frozen? ⟨w.heap.size,3,none⟩=false):=by
 have a:=λo=>c.cell (p:=⟨w.heap.size,o,none⟩) (by simp);have b:=λo=>c.frozen (p:=⟨w.heap.size,o,none⟩) (by simp);exact⟨⟨(a 0).trans (by simp[go_sem]),(a 1).trans (by simp[go_sem]),(a 2).trans (by simp[go_sem]),(a 3).trans (by simp[go_sem])⟩,(b 0).trans (by simp[go_sem]),(b 1).trans (by simp[go_sem]),(b 2).trans (by simp[go_sem]),(b 3).trans (by simp[go_sem])⟩
theorem oF{w1 w2:ag}{q:Nat}{c d e f:au}(b:q<w1.heap.size)(l:am w1 w2)(k:ai w1 q 0 c/\ai w1 q 1 d/\ai w1 q 2 e/\ai w1 q 3 f):ai w2 q 0 c/\ai w2 q 1 d/\ai w2 q 2 e/\ai w2 q 3 f:=by
 obtain⟨g,h,i,j⟩:=k;have a:=aw l;exact⟨(a _ _ b).trans g,(a _ _ b).trans h,(a _ _ b).trans i,(a _ _ b).trans j⟩
def fj(base g c:Nat)(o:Option (List An))(w:ag)(e:Ending)(w':ag):Prop:=
 e=.returned (.bool o.isSome)/\w.grownBy w' (some g)/\∀b,o=some b->nL base g c b w'
def Dt(B:Nat)(w:ag)(b:List An):Prop:=b.length=4/\∀y∈b,Gx B w y/\aJ y
theorem Gx.below{B:Nat}{w w':ag}(a:Below B w w'){x:An}(k:Gx B w x):Gx B w' x:=In.below a k
theorem Dt.below{B:Nat}{w w':ag}(c:Below B w w'){b:List An}(k:Dt B w b):Dt B w' b:=⟨k.1,λy a=>⟨(k.2 y a).1.below c,(k.2 y a).2⟩⟩
theorem Dt.fit{B:Nat}{w:ag}{b a:List An}(k:Dt B w b){n m:Nat}{p:Tm n}{t:Tm m}(e:In B w m t)(d:aJ ⟨m,t⟩)(c:iG n p m t b=some a):Dt B w a:=
 lK (λx=>Gx B w x/\aJ x) (ID (Li B w) bj) n p m t ⟨e,d⟩ b a k c
def OJ(n:Nat):Prop:=∀(p:Tm n)(m:Nat)(t:Tm m)(b:List An)(base g c B:Nat)(w:ag),In B w n p->In B w m t->aJ ⟨n,p⟩->aJ ⟨m,t⟩->Dt B w b->B<=base->nL base g c b w->
 ao 185 #[ae (some ⟨g,0,none⟩) 4 c,dG n p,dG m t] w (fj base g c (iG n p m t b) w)
theorem rJ(x y:Int)(w:ag):ao 97 #[ab x,ab y] w λe w'=>e=.returned (ab (lX x y))/\w'=w:=by
 go_enter func97,ntmps97;go_wp2
 all_goals go_ret
 all_goals refine⟨jK ?_,rfl⟩
 all_goals unfold lX
 all_goals (repeat' split)<;>omega
theorem J7(x y:aq)(w:ag):ao 204 #[af x,af y] w λe w'=>e=.returned (ab (xt x y))/\w'=w:=by
 go_enter func204,ntmps204;go_wp2
 all_goals go_ret
 all_goals refine⟨jK ?_,rfl⟩
 all_goals unfold xt
 all_goals simp[*]
attribute [local go_sem ↓] Go.wp_at_zero Go.wp_at_succ
def F5(n:Nat):Prop:=∀(x:Tm n)(m:Nat)(y:Tm m)(B:Nat)(w:ag),In B w n x->In B w m y->B<=w.heap.size->
 ao 200 #[dG n x,dG m y] w λe w'=>e=.returned (ab (yw n x m y))/\am w w'
theorem MN(p q:Nat)(a c:ar)(pc d:Nat)(w:ag)(_hpc:p<=9223372036854775807)(_hqc:q<=9223372036854775807)(b:((p:Int)==(q:Int))=false):ao 205 #[ae a p pc,ae c q d] w λe w'=>e=.returned (ab (lX p q))/\w'=w:=by
 have f:((p:Int) !=(q:Int))=true:=by simpa using b
 go_enter func205,ntmps205;go_wp2_with (go_at_call 97;refine(rJ _ _ _).mono ?_;rintro e w' ⟨rfl,rfl⟩)
 go_ret
 exact⟨rfl,rfl⟩
theorem MM(n m:Nat)(ih:F5 n)(p:List (Tm n))(q:List (Tm m))(len:Nat)(M:Hid (p.length=len))(V:Hid (q.length=len))(f po g j pc X:Nat)(B:Nat)(w:ag)(ai:len<=9223372036854775807)(T:f<B)(U:g<B)(L:∀(i:Nat)(y:Tm n),p[i]?=some y->dH w f (po+i*4) n y/\In B w n y)(N:∀(i:Nat)(y:Tm m),q[i]?=some y->dH w g (j+i*4) m y/\In B w m y)(l:B<=w.heap.size):ao 205 #[ae (some ⟨f,po,none⟩) len pc,ae (some ⟨g,j,none⟩) len X] w λe w'=> e=.returned (ab (qd (λa b=>yw n a m b) p q))/\am w w':=by
 go_enter func205,ntmps205;go_wp2_with fail;go_loopw [19] (λi wr=>∃k:Nat,k<=len/\i=ab k/\am w wr/\Hid (qd (λa b=>yw n a m b) (p.drop k) (q.drop k)=qd (λa b=>yw n a m b) p q)) (λi _=>len-(intOf i).toNat)
 case atStart=>exact⟨0,by omega,rfl,aA _ _,rfl⟩
 case round=>
  obtain⟨k,aa,rfl,d,z⟩:=hrel;by_cases K:k<len
  ·obtain⟨x,A⟩:∃x,p[k]?=some x:=⟨p[k]'(by rw[M.out];exact K),aN _⟩;obtain⟨y,C⟩:∃y,q[k]?=some y:=⟨q[k]'(by rw[V.out];exact K),aN _⟩;obtain⟨r,s⟩:=L k x A;obtain⟨t,u⟩:=N k y C;have E:Hid (qd (λa b=>yw n a m b) (p.drop k) (q.drop k)=if yw n x m y=0 then qd (λa b=>yw n a m b) (p.drop (k+1)) (q.drop (k+1))else yw n x m y):=Ix (λa b=>yw n a m b) p q k x y A C;replace r:=r.below (d.mono l) T;replace t:=t.below (d.mono l) U;replace s:=s.below (d.mono l);replace u:=u.below (d.mono l);clear L N A C;cases n with
   | zero=>exact r.elim
   | succ n=>
   cases m with
   | zero=>exact t.elim
   | succ m=>
   obtain⟨al,an,aq,ar⟩:=r;obtain⟨y0,y1,y2,au⟩:=t;have J:∀(c:ag),In B c (n+1) x->In B c (m+1) y->B<=c.heap.size->ao 200 #[.agg #[ab x.1.1,ab x.1.2.1,af x.1.2.2,ae x.2.1.1 x.2.2.length x.2.1.2],.agg #[ab y.1.1,ab y.1.2.1,af y.1.2.2,ae y.2.1.1 y.2.2.length y.2.1.2]] c λe w'=>e=.returned (ab (yw (n+1) x (m+1) y))/\am c w':=λc P Q R=>ih x (m+1) y B c P Q R;have D:=ap J;clear J ih;have F:=ap s;have G:=ap u;clear s u;generalize yw (n+1) x (m+1) y=o at*;generalize x.2.2.length=Y at*;generalize y.2.2.length=yl at*;have ad:(0:Int)<=(k:Int):=by omega
   have ah:(k:Int)<(len:Int):=by omega
   have S:B<=wr.heap.size:=aF l d.size;have O:=ap (D wr.drew (F.below (aA _ _).drew) (G.below (aA _ _).drew) S);have aj:f<wr.heap.size:=by omega
   have ak:g<wr.heap.size:=by omega
   clear D F G;go_wp2_with fail
   go_region_held3 (λw'=>w'.cell? ⟨f,po+k*4,none⟩=some (ab x.1.1)/\w'.cell? ⟨f,po+k*4+1,none⟩=some (ab x.1.2.1)/\w'.cell? ⟨f,po+k*4+2,none⟩=some (af x.1.2.2)/\w'.cell? ⟨f,po+k*4+3,none⟩=some (ae x.2.1.1 Y x.2.1.2)
       /\w'.cell? ⟨g,j+k*4,none⟩=some (ab y.1.1)/\w'.cell? ⟨g,j+k*4+1,none⟩=some (ab y.1.2.1)/\w'.cell? ⟨g,j+k*4+2,none⟩=some (af y.1.2.2)/\w'.cell? ⟨g,j+k*4+3,none⟩=some (ae y.2.1.1 yl y.2.1.2))
    (go_keep) ((go_at_call 200;refine O.mono ?_;rintro e c ⟨rfl,H⟩;have Z:=aw (dc H)))
   have I:am w c:=d.trans ((dc H).mono d.size);by_cases h:o=0
   ·have v:Hid (o=0):=h;have W:(o !=0)=false:=by rw[h];rfl
    clear h;go_wp2_with fail;go_roundw
    case rel=>exact⟨k+1,by omega,by go_num,I,by rw[<-z.out,E.out,if_pos v.out];rfl⟩
    case measure=>simp[intOf];omega
   ·have v:Hid (¬o=0):=h;have W:(o !=0)=true:=by simpa using h
    clear h;go_wp2_with fail
    go_ret
    exact⟨jK (by rw[<-z.out,E.out,if_neg v.out]),I⟩
  ·go_wp2_with fail
   go_ret
   refine⟨jK ?_,d⟩;rw[<-z.out,gt (by rw[M.out];omega)];rfl
theorem Ba(n m:Nat)(a c:ar)(pc d:Nat)(w:ag):ao 205 #[.slice a ([]:List (Tm n)).length pc,.slice c ([]:List (Tm m)).length d] w λe w'=>e=.returned (ab (qd (λa b=>yw n a m b) [] []))/\am w w':=by
 show ao 205 #[ae a 0 pc,ae c 0 d] w λe w'=>e=.returned (ab 0)/\am w w';go_enter func205,ntmps205;go_wp2_with fail
 go_loop [19] (λf=>f=ab 0) (λ_=>0)
 case atStart=>rfl
 case round=>
  obtain rfl:=hrel;go_wp2_with fail
  go_ret
  exact⟨rfl,aA _ _⟩
theorem Ez(w:ag)(k b h i:Int)(s g:aq)(a c:ar)(pl f pc d:Nat)(e:¬k=b):ao 200 #[.agg #[ab k,ab h,af s,ae a pl pc],.agg #[ab b,ab i,af g,ae c f d]] w λe w'=>e=.returned (ab (lX k b))/\am w w':=by
 have j:(k !=b)=true:=by simpa using e
 clear e;go_enter func200,ntmps200;go_wp2_with (go_at_call 97;refine(rJ _ _ _).mono ?_;rintro e w' ⟨rfl,rfl⟩)
 go_ret
 exact⟨rfl,(aS _ _).alloc (by simp) _⟩
theorem td(w:ag)(k d f:Int)(s c:aq)(a g:ar)(pl i pc h:Nat)(r:Int)(b:k=1\/k=3\/k=5):ao 200 #[.agg #[ab k,ab d,af s,ae a pl pc],.agg #[ab k,ab f,af c,ae g i h]] w λe w'=>e=.returned (ab (if k=1\/k=3\/k=5 then lX d f else if k=2 then xt s c else if k=4 then r else 0))/\am w w':=by
 rw[if_pos b];rcases b with rfl|rfl|rfl
 all_goals
  go_enter func200,ntmps200;go_wp2_with (go_at_call 97;refine(rJ _ _ _).mono ?_;rintro e w' ⟨rfl,rfl⟩)
  go_ret
  exact⟨rfl,(aS _ _).alloc (by simp) _⟩
theorem Iz(w:ag)(g h:Int)(s b:aq)(a c:ar)(pl f pc d:Nat):ao 200 #[.agg #[ab 2,ab g,af s,ae a pl pc],.agg #[ab 2,ab h,af b,ae c f d]] w λe w'=>e=.returned (ab (xt s b))/\am w w':=by
 go_enter func200,ntmps200;go_wp2_with (go_at_call 204;refine(J7 _ _ _).mono ?_;rintro e w' ⟨rfl,rfl⟩)
 go_ret
 exact⟨rfl,(aS _ _).alloc (by simp) _⟩
theorem Ey(w:ag)(k m n:Int)(s l:aq)(a h:ar)(pl j pc i:Nat)(b:¬k=1)(c:¬k=2)(d:¬k=3)(f:¬k=4)(g:¬k=5):ao 200 #[.agg #[ab k,ab m,af s,ae a pl pc],.agg #[ab k,ab n,af l,ae h j i]] w λe w'=>e=.returned (ab 0)/\am w w':=by
 have o:(k==1)=false:=by simpa using b
 have p:(k==2)=false:=by simpa using c
 have q:(k==3)=false:=by simpa using d
 have r:(k==4)=false:=by simpa using f
 have t:(k==5)=false:=by simpa using g
 clear b c d f g;go_enter func200,ntmps200;go_wp2_with fail
 go_ret
 exact⟨rfl,(aS _ _).alloc (by simp) _⟩
theorem IA(w:ag)(j k:Int)(s i:aq)(a b:ar)(pl f pc d:Nat)(r:Int)(c:∀w1:ag,am w w1->ao 205 #[ae a pl pc,ae b f d] w1 λe w'=>e=.returned (ab r)/\am w1 w'):ao 200 #[.agg #[ab 4,ab j,af s,ae a pl pc],.agg #[ab 4,ab k,af i,ae b f d]] w λe w'=>e=.returned (ab r)/\am w w':=by
 have g:=ap c;clear c;go_enter func200,ntmps200;go_wp2_with fail;refine(g _ ((aS _ _).alloc (by simp) _)).mono ?_;rintro e w' ⟨rfl,h⟩;go_wp2_with fail
 go_ret
 exact⟨rfl,((aS _ _).alloc (by simp) _).trans (h.mono (by simp;omega))⟩
theorem Iy(n:Nat):F5 n:=by
 induction n with
 | zero=>intro x h t I g H;exact H.elim
 | succ n ih=>
  intro x h t I g H r w;cases h with
  | zero=>exact r.elim
  | succ h=>
  obtain⟨⟨k,l,i⟩,⟨a,pc⟩,c⟩:=x;obtain⟨⟨A,m,j⟩,⟨f,e⟩,d⟩:=t;obtain⟨⟨N,Y,T,Q,F⟩,p⟩:=H;obtain⟨⟨O,Z,U,S,G⟩,q⟩:=r;simp only at N Y T Q F p O Z U S G q
  show ao 200 #[.agg #[ab k,ab l,af i,ae a c.length pc],.agg #[ab A,ab m,af j,ae f d.length e]] g λo C=>o=.returned (ab (if k=A then
   if k=1\/k=3\/k=5 then lX l m else if k=2 then xt i j else if k=4 then if c.length=d.length then qd (λa b=>yw n a h b) c d else lX c.length d.length
   else 0 else lX k A))/\am g C
  have V:∀s:ag,am g s->ao 205 #[ae a c.length pc,ae f d.length e] s λo C=>o=.returned (ab (if c.length=d.length then qd (λa b=>yw n a h b) c d else lX c.length d.length))/\am s C:=by
   intro s y;unfold maxLen at F G;by_cases u:c.length=d.length
   ·rw[if_pos u];rcases p with p|⟨aa,po,rfl,P,p⟩
    ·subst p;have X:d=[]:=bL u.symm;subst X;exact Ba n h a f pc e s
    ·rcases q with q|⟨ad,ah,rfl,R,q⟩
     ·subst q;have W:c=[]:=bL u;subst W;exact Ba n h _ f pc e s
     ·have M:=MM n h ih c d c.length rfl u.symm aa po ad ah pc e I s (by omega) P R (λz t r=>⟨(p z t r).1.below (y.mono w) P,(p z t r).2.below (y.mono w)⟩)
        (λz t r=>⟨(q z t r).1.below (y.mono w) R,(q z t r).2.below (y.mono w)⟩) (aF w y.size)
      rw[u]at M;rw[u];exact M
   ·rw[if_neg u];refine(MN c.length d.length a f pc e s (by omega) (by omega) (by simp;omega)).mono ?_;rintro o C ⟨rfl,rfl⟩;exact⟨rfl,aA _ _⟩
  generalize (if c.length=d.length then qd (λa b=>yw n a h b) c d else lX c.length d.length)=B at*;clear p q ih Q F S G T U w;generalize c.length=pl at*;generalize d.length=v at*;obtain⟨ai,an⟩:=N;obtain⟨al,ap⟩:=O;by_cases o:k=A
  ·subst o;rw[if_pos rfl];by_cases J:k=1
   ·subst J;exact td g 1 l m i j a f pl v pc e B (aj rfl)
   by_cases K:k=3
   ·subst K;exact td g 3 l m i j a f pl v pc e B (ak (aj rfl))
   by_cases L:k=5
   ·subst L;exact td g 5 l m i j a f pl v pc e B (ak (ak rfl))
   rw[if_neg (by omega)];by_cases D:k=2
   ·subst D;exact Iz g l m i j a f pl v pc e
   rw[if_neg D];by_cases E:k=4
   ·subst E;exact IA g l m i j a f pl v pc e B V
   rw[if_neg E];exact Ey g k l m i j a f pl v pc e J D K E L
  ·rw[if_neg o];exact Ez g k A l m i j a f pl v pc e o
theorem jQ(k b:Int)(s:aq)(a:ar)(l c:Nat)(w:ag):ao 197 #[.agg #[ab k,ab b,af s,ae a l c]] w λe w'=>e=.returned (.bool (!(k==6)))/\am w w':=by
 cases h:k==6
 all_goals
  go_enter func197,ntmps197;go_wp2_with fail
  go_ret
  exact⟨fq (by simp[bne,h]),aS _ _⟩
theorem Cp(x:An)(y:An)(B:Nat)(w:ag)(d:Gx B w x)(f:Gx B w y)(b:B<=w.heap.size)(g:aJ x)(h:aJ y):ao 200 #[dG x.1 x.2,dG y.1 y.2] w λe w'=>∃r,e=.returned (ab r)/\Hid ((r==0)=eL x y)/\am w w':=by
 refine(Iy x.1 x.2 y.1 y.2 B w d f b).mono ?_;rintro e w' ⟨rfl,c⟩;refine⟨_,rfl,?_,c⟩;have a:=Co x.1 x.2 y.1 y.2 g h;unfold Hid eL;cases hs:aB x.1 x.2 y.1 y.2
 ·rw[hs]at a;simp only[pK,iff_false]at a;simpa using a
 ·rw[hs]at a;simp only[iff_true]at a;simpa using a
theorem Kz(b:List An)(base g c B:Nat)(w:ag)(k:Nat)(K:k<4)(m:Nat)(t:Tm (m+1))(y:Dt B w b)(M:In B w (m+1) t)(L:aJ ⟨m+1,t⟩)(U:B<=base)(H:nL base g c b w):ao 198 #[ae (some ⟨g,0,none⟩) 4 c,ab k,.agg #[ab t.1.1,ab t.1.2.1,af t.1.2.2,ae t.2.1.1 t.2.2.length t.2.1.2]] w (fj base g c (vz b k ⟨m+1,t⟩) w):=by
 obtain⟨a,v⟩:∃a,b[k]?=some a:=⟨b[k]'(by rw[y.1];exact K),aN _⟩;obtain⟨E,N⟩:=y.2 a (aL v);obtain⟨n,a⟩:=a;cases n with
 | zero=>exact E.elim
 | succ n=>
 have D:Hid (vz b k ⟨m+1,t⟩=if a.1.1=6 then some (b.set k ⟨m+1,t⟩)else if eL ⟨n+1,a⟩ ⟨m+1,t⟩then some b else none):=by simp only[Hid,vz,v,cg];rfl
 obtain⟨j,l,p,q⟩:=H.cells k _ v;simp only[tO,gK,bO]at j l p q;have Z:(0:Int)<=(k:Int):=by omega
 have aa:(k:Int)<4:=by omega
 have A:=ap H;have I:=ap v;have R:g<w.heap.size:=H.lt.2;clear v H;generalize vz b k ⟨m+1,t⟩=o at*;cases h6:a.1.1==6
 case true=>
  go_enter func198,ntmps198;go_wp2_with fail;refine(jQ _ _ _ _ _ _ _).mono ?_;rintro h e ⟨rfl,d⟩;have f:=ap d;clear j l p q;have r:Hid (nL base g c b e):=(A.kept (di w _ none) (by simp)).below d;have W:=λS=>r.free S;obtain⟨⟨t0,t1,t2,t3⟩,_⟩:=FD d;obtain⟨j,l,p,q⟩:=r.out.cells k _ I;simp only[tO,gK,bO]at j l p q;clear d;go_wp2_with fail
  go_ret
  have s:o=some (b.set k ⟨m+1,t⟩):=by rw[D.out,if_pos (by simpa using h6)]
  subst s;exact⟨rfl,mj (dg ((aS _ _).trans (f.mono (by simp))) _) (EI _ _ _ _),λJ h=>by obtain rfl:=az h;exact r.put k ⟨m+1,t⟩ (by rw[y.1];exact K)⟩
 case false=>
  go_enter func198,ntmps198;go_wp2_with fail;refine(jQ _ _ _ _ _ _ _).mono ?_;rintro h e ⟨rfl,d⟩;clear j l p q;have f:Hid (am w e):=(aS _ _).trans (d.mono (by simp));have r:Hid (nL base g c b e):=(A.kept (di w _ none) (by simp)).below d;obtain⟨⟨t0,t1,t2,t3⟩,_⟩:=FD d;obtain⟨j,l,p,q⟩:=r.out.cells k _ I;simp only[tO,gK,bO]at j l p q;have z:Hid (B<=w.heap.size):=by have:=A.lt;unfold Hid;omega
  have P:Hid (w.heap.size<e.heap.size):=by have:=d.size;simp at this;unfold Hid;omega
  have F:Hid (Gx B e ⟨n+1,a⟩/\Gx B e ⟨m+1,t⟩):=⟨E.below (f.mono z),Gx.below (x:=⟨m+1,t⟩) (f.mono z) M⟩;have Q:=ap (Cp ⟨n+1,a⟩ ⟨m+1,t⟩ B e.drew (F.1.below (aA _ _).drew) (F.2.below (aA _ _).drew) (aF z f.size) N L);clear d M E y N L;go_wp2_with fail
  go_region_held3 (λi=>i.cell? ⟨g,k*4,none⟩=some (ab a.1.1)/\i.cell? ⟨g,k*4+1,none⟩=some (ab a.1.2.1)/\i.cell? ⟨g,k*4+2,none⟩=some (af a.1.2.2)/\i.cell? ⟨g,k*4+3,none⟩=some (ae a.2.1.1 a.2.2.length a.2.1.2)
        /\i.cell? ⟨w.heap.size,0,none⟩=some (ab t.1.1)/\i.cell? ⟨w.heap.size,1,none⟩=some (ab t.1.2.1)/\i.cell? ⟨w.heap.size,2,none⟩=some (af t.1.2.2)/\i.cell? ⟨w.heap.size,3,none⟩=some (ae t.2.1.1 t.2.2.length t.2.1.2))
      (go_keep) ((go_at_call 200;refine Q.mono ?_;rintro h O ⟨T,rfl,G,u⟩;have V:=aw (dc u);have X:g<e.heap.size:=aW R f.size;have Y:w.heap.size<e.heap.size:=P.out))
  replace u:=dc u;have C:Hid (w.grownBy O (some g)/\nL base g c b O):=⟨dg (f.trans (u.mono f.size)) _,r.below u⟩;have s:o=if eL ⟨n+1,a⟩ ⟨m+1,t⟩then some b else none:=by rw[D.out,if_neg (by simpa using h6)]
  rw[<-G.out]at s;clear G D;cases h0:T==0
  all_goals
   rw[h0]at s;go_wp2_with fail
   go_ret
   simp only[pK,if_false,dj]at s;subst s
  ·exact⟨rfl,C.1,λJ h=>by cases h⟩
  ·exact⟨rfl,C.1,λJ h=>by obtain rfl:=az h;exact C.2⟩
def LI(x:Nd):Bool:= !(x.1.1==5) && !(x.1.1==6)
def kE(n:Nat)(x:Tm n):Bool:=(aC n x).all LI
def aT:(n:Nat)->Tm n->Bool
 | 0,_=>true
 | n+1,x=> !(x.1.1==5) && !(x.1.1==6) && x.2.2.all λy=>aT n y
theorem fR:(n:Nat)->(x:Tm n)->aT n x=kE n x
 | 0,_=>by simp[aT,kE,aC,LI]
 | n+1,x=>by
  have key:∀l:List (Tm n),(l.all λy=>aT n y)=(l.flatMap λy=>aC n y).all LI:=by
   intro l
   induction l with
   | nil=>rfl
   | cons y l ih=>
    have:=fR n y;unfold kE at this;simp only[jE,bP,lf,ih,this]
  show (!(x.1.1==5) && !(x.1.1==6) && x.2.2.all λy=>aT n y)=(LI (x.1,(x.2.1.1,x.2.2.length,x.2.1.2)) && (x.2.2.flatMap λy=>aC n y).all LI);rw[key];rfl
def PR(n:Nat):Prop:=∀(x:Tm n)(B:Nat)(w:ag),In B w n x->B<=w.heap.size->
 ao 54 #[dG n x] w λe w'=>e=.returned (.bool (aT n x))/\am w w'
theorem Bq(n:Nat)(ih:PR n)(g I:Int)(s:aq)(a:ar)(pc len:Nat)(p:List (Tm n))(C:Hid (p.length=len))(B:Nat)(w:ag)(f:Hid (p=[]\/∃b o,a=some ⟨b,o,none⟩/\b<B/\∀(i:Nat)(y:Tm n),p[i]?=some y->dH w b (o+i*4) n y/\In B w n y))(M:len<=9223372036854775807)(q:B<=w.heap.size):ao 54 #[.agg #[ab g,ab I,af s,ae a len pc]] w λe w'=>e=.returned (.bool (!(g==5) && !(g==6) && p.all λy=>aT n y))/\am w w':=by
 cases h5:g==5
 case true=>
  go_enter func54,ntmps54;go_wp2_with fail
  go_ret
  exact⟨b9 (by simp),aS _ _⟩
 cases h6:g==6
 case true=>
  go_enter func54,ntmps54;go_wp2_with fail
  go_ret
  exact⟨b9 (by simp),aS _ _⟩
 have u:(!false && !false && p.all λy=>aT n y)=p.all λy=>aT n y:=by simp
 rw[u];clear u;go_enter func54,ntmps54;go_wp2_with fail;go_loopw [16] (λi wr=>∃k:Nat,k<=len/\i=ab k/\am w wr/\Hid (((p.drop k).all λy=>aT n y)=p.all λy=>aT n y)) (λi _=>len-(intOf i).toNat)
 case atStart=>exact⟨0,by omega,rfl,aS _ _,rfl⟩
 case round=>
  obtain⟨k,J,rfl,c,r⟩:=hrel;by_cases F:k<len
  ·obtain⟨x,j⟩:∃x,p[k]?=some x:=⟨p[k]'(by rw[C.out];exact F),aN _⟩;have t:Hid (((p.drop k).all λy=>aT n y)=(aT n x && (p.drop (k+1)).all λy=>aT n y)):=by
    obtain⟨h,E⟩:=aZ.1 j;rw[eX h,E];rfl
   rcases f.out with f|⟨N,po,rfl,G,f⟩
   ·subst f;simp at j
   obtain⟨l,m⟩:=f k x j;replace l:=l.below (c.mono q) G;replace m:=m.below (c.mono q);clear f j;cases n with
   | zero=>exact l.elim
   | succ n=>
   obtain⟨O,P,Q,R⟩:=l;have v:B<=wr.heap.size:=aF q c.size
   have D:Hid (∀d,am wr d->ao 54 #[.agg #[ab x.1.1,ab x.1.2.1,af x.1.2.2,ae x.2.1.1 x.2.2.length x.2.1.2]] d λe w'=>e=.returned (.bool (aT (n+1) x))/\am d w'):=
    λd h=>ih x B d (m.below (h.mono v)) (aF v h.size)
   clear ih m;generalize x.2.2.length=S at*;generalize aT (n+1) x=H at*;have K:(0:Int)<=(k:Int):=by omega
   have L:(k:Int)<(len:Int):=by omega
   go_wp2_with fail;refine(D _ (aS _ _)).mono ?_;rintro e d ⟨rfl,z⟩;have A:am w d:=(c.trans ((aS _ _).mono c.size)).trans (z.mono (by have:=c.size;simp;omega));clear z;cases H with
   | true=>
    go_wp2_with fail;go_roundw
    case rel=>exact⟨k+1,by omega,by go_num,A,by rw[<-r.out,t.out];rfl⟩
    case measure=>simp[intOf];omega
   | false=>
    go_wp2_with fail
    go_ret
    exact⟨b9 (by rw[<-r.out,t.out];rfl),A⟩
  ·go_wp2_with fail
   go_ret
   refine⟨b9 ?_,c⟩;rw[<-r.out,gt (by rw[C.out];omega)];rfl
theorem jk(n:Nat):PR n:=by
 induction n with
 | zero=>intro x b f a;exact a.elim
 | succ n ih=>
  intro x b f a h;obtain⟨⟨k,l,j⟩,⟨g,pc⟩,e⟩:=x;obtain⟨⟨_,_,_,i,d⟩,c⟩:=a;simp only at i d c;unfold maxLen at d;exact Bq n ih k l j g pc e.length e rfl b f c (by omega) h
def fU:(n:Nat)->Tm n->Int
 | 0,_=>0
 | n+1,x=>if x.1.1=4 then 1+x.2.2.foldl (λm y=>max m (fU n y)) 0 else 0
def tH(n:Nat)(p:List (Tm n))(k:Nat):Int:=(p.take k).foldl (λm y=>max m (fU n y)) 0
theorem DP(n:Nat)(p:List (Tm n))(k:Nat)(x:Tm n)(b:p[k]?=some x):tH n p (k+1)=max (tH n p k) (fU n x):=by
 obtain⟨c,a⟩:=aZ.1 b;unfold tH;rw[pS c,a,jF];rfl
theorem qH{n:Nat}(N:Int):(l:List (Tm n))->(m:Int)->0<=m->m<=N->(∀y∈l,0<=fU n y/\fU n y<=N)->0<=l.foldl (λm y=>max m (fU n y)) m/\l.foldl (λm y=>max m (fU n y)) m<=N
 | [],_,h0,h1,_=>⟨h0,h1⟩
 | y::l,m,h0,h1,h=>by
  have c:=h y (by simp);exact qH N l (max m (fU n y)) (by omega) (by omega) (λb a=>h b (by simp[a]))
theorem kJ{n:Nat}(l:List (Tm n))(y:Tm n)(c:y∈l):(aC n y).length<=(l.flatMap λy=>aC n y).length:=by
 obtain⟨a,d⟩:=dp c;have b:=Gp (λy=>aC n y) l (a+1);rw[I6 _ l a y d,bz]at b;omega
theorem gB:(n:Nat)->(x:Tm n)->0<=fU n x/\fU n x<=(aC n x).length
 | 0,_=>by simp[fU]
 | n+1,x=>by
  have e:=qH ((x.2.2.flatMap λy=>aC n y).length:Int) x.2.2 0 (by omega) (by omega) (λy b=>by
   have c:=gB n y;have d:=kJ x.2.2 y b
   omega)
  simp only[fU,aC,bA];by_cases a:x.1.1=4
  ·rw[if_pos a];omega
  ·rw[if_neg a];omega
theorem By(n:Nat)(p:List (Tm n))(k:Nat):0<=tH n p k/\tH n p k<=(p.flatMap λy=>aC n y).length:=
 qH _ (p.take k) 0 (by omega) (by omega) (λy a=>by
  have b:=gB n y;have c:=kJ p y (List.mem_of_mem_take a)
  omega)
def PS(n:Nat):Prop:=∀(x:Tm n)(B:Nat)(w:ag),In B w n x->B<=w.heap.size->(aC n x).length<=2097152->
 ao 87 #[dG n x] w λe w'=>e=.returned (ab (fU n x))/\am w w'
theorem DQ(b d:Int)(s:aq)(a:ar)(len pc:Nat)(w:ag)(c:¬b=4):ao 87 #[.agg #[ab b,ab d,af s,ae a len pc]] w λe w'=>e=.returned (ab 0)/\am w w':=by
 have f:(b !=4)=true:=by simpa using c
 clear c;go_enter func87,ntmps87;go_wp2_with fail
 go_ret
 exact⟨rfl,aS _ _⟩
theorem G2(n:Nat)(ih:PS n)(P:Int)(s:aq)(a:ar)(pc len:Nat)(p:List (Tm n))(E:Hid (p.length=len))(B:Nat)(w:ag)(g:Hid (p=[]\/∃b o,a=some ⟨b,o,none⟩/\b<B/\∀(i:Nat)(y:Tm n),p[i]?=some y->dH w b (o+i*4) n y/\In B w n y))(T:len<=9223372036854775807)(r:B<=w.heap.size)(O:Hid (1+(p.flatMap λy=>aC n y).length<=2097152)):ao 87 #[.agg #[ab 4,ab P,af s,ae a len pc]] w λe w'=> e=.returned (ab (1+p.foldl (λm y=>max m (fU n y)) 0))/\am w w':=by
 go_enter func87,ntmps87;go_wp2_with fail;go_loopw [3,12] (λt i wr=>∃k:Nat,∃c:Int,k<=len/\i=ab k/\t=ab c/\Hid (c=tH n p k)/\am w wr) (λ_ i _=>len-(intOf i).toNat)
 case atStart=>exact⟨0,0,by omega,rfl,rfl,by simp[Hid,tH],aS _ _⟩
 case round=>
  obtain⟨k,c,Q,rfl,rfl,u,d⟩:=hrel;have q:=By n p k;rw[<-u.out]at q;have K:=O.out;have V:0<=c:=q.1;have W:c<=2097152:=by omega
  clear q;by_cases M:k<len
  ·obtain⟨x,h⟩:∃x,p[k]?=some x:=⟨p[k]'(by rw[E.out];exact M),aN _⟩;have I:=ap (DP n p k x h);have J:=kJ p x (aL h);have F:(aC n x).length<=2097152:=by omega
   clear J K;rcases g.out with g|⟨U,po,rfl,N,g⟩
   ·subst g;simp at h
   obtain⟨j,l⟩:=g k x h;replace j:=j.below (d.mono r) N;replace l:=l.below (d.mono r);clear g h;cases n with
   | zero=>exact j.elim
   | succ n=>
   obtain⟨X,Y,Z,aa⟩:=j;have A:B<=wr.heap.size:=aF r d.size
   have G:Hid (∀f,am wr f->ao 87 #[.agg #[ab x.1.1,ab x.1.2.1,af x.1.2.2,ae x.2.1.1 x.2.2.length x.2.1.2]] f λe w'=>e=.returned (ab (fU (n+1) x))/\am f w'):=
    λf z=>ih x B f (l.below (z.mono A)) (aF A z.size) F
   clear ih l F;generalize x.2.2.length=ad at*;generalize fU (n+1) x=v at*;have R:(0:Int)<=(k:Int):=by omega
   have S:(k:Int)<(len:Int):=by omega
   go_wp2_with fail;refine(G _ (aS _ _)).mono ?_;rintro e f ⟨rfl,C⟩;have L:am w f:=(d.trans ((aS _ _).mono d.size)).trans (C.mono (by have:=d.size;simp;omega));clear C;have D:max c v=if c<v then v else c:=by split<;>omega
   have H:=ap D;clear D;go_wp2_with fail;go_roundw
   case rel=>exact⟨k+1,_,by omega,by go_num,rfl,by simp only[Hid];rw[I.out,<-u.out,H.out],L⟩
   case measure=>simp[intOf];omega
  ·go_wp2_with fail
   go_ret
   refine⟨jK ?_,d⟩;rw[u.out];unfold tH;rw[bD (by rw[E.out];omega)]
theorem G1(n:Nat):PS n:=by
 induction n with
 | zero=>intro x i b g;exact g.elim
 | succ n ih=>
  intro x i b g p m;obtain⟨⟨k,e,d⟩,⟨c,pc⟩,a⟩:=x;obtain⟨⟨_,_,_,r,l⟩,j⟩:=g;simp only at r l j;unfold maxLen at l;have q:(aC (n+1) ((k,e,d),(c,pc),a)).length=1+(a.flatMap λh=>aC n h).length:=by simp only[aC,bA];omega
  rw[q]at m;show ao 87 #[.agg #[ab k,ab e,af d,ae c a.length pc]] b λo t=>o=.returned (ab (if k=4 then 1+a.foldl (λs h=>max s (fU n h)) 0 else 0))/\am b t;by_cases f:k=4
  ·subst f;exact G2 n ih e d c pc a.length a rfl i b j (by omega) p m
  ·rw[if_neg f];exact DQ k e d c a.length pc b f
def qr(n:Nat)(p:List (Tm n))(k:Nat):Int:=1+p.length+((p.take k).map λy=>sz n y).sum
theorem Fi(n:Nat)(p:List (Tm n))(k:Nat)(x:Tm n)(b:p[k]?=some x):qr n p (k+1)=qr n p k+sz n x:=by
 obtain⟨c,a⟩:=aZ.1 b;unfold qr;rw[pS c,a];simp;omega
theorem I5(n:Nat)(l:List (Tm n)):(l.map λy=>1+sz n y).sum=l.length+(l.map λy=>sz n y).sum:=by
 induction l with
 | nil=>simp
 | cons y l ih=>simp only[aV,bR,bA,ih];omega
theorem Ji(n:Nat)(p:List (Tm n))(k:Nat)(a:p.length<=k):qr n p k=1+(p.map λy=>1+sz n y).sum:=by
 unfold qr;rw[bD a,I5];omega
theorem yg(n:Nat)(p:List (Tm n)):p.length<=(p.flatMap λy=>aC n y).length:=by
 induction p with
 | nil=>simp
 | cons y l ih=>
  have:1<=(aC n y).length:=by cases n<;>simp[aC]
  simp only[bP,bz,bA];omega
theorem Db(n:Nat)(p:List (Tm n))(k:Nat):0<=qr n p k/\qr n p k<=3*(1+(p.flatMap λy=>aC n y).length:Int):=by
 have b:=yg n p;have a:=Gp (λy=>aC n y) p k;have key:∀l:List (Tm n),0<=(l.map λy=>sz n y).sum/\(l.map λy=>sz n y).sum<=2*((l.flatMap λy=>aC n y).length:Int):=by
  intro l
  induction l with
  | nil=>exact⟨by simp,by simp⟩
  | cons y l ih=>
   have c:=ft n y;simp only[aV,bR,bP,bz];exact⟨by omega,by omega⟩
 have k:=key (p.take k);unfold qr;exact⟨by omega,by omega⟩
def QZ(n:Nat):Prop:=∀(x:Tm n)(B:Nat)(w:ag),In B w n x->B<=w.heap.size->(aC n x).length<=2097152->
 ao 88 #[dG n x] w λe w'=>e=.returned (ab (sz n x))/\am w w'
theorem Fg(b d:Int)(s:aq)(a:ar)(len pc:Nat)(w:ag)(c:¬b=4):ao 88 #[.agg #[ab b,ab d,af s,ae a len pc]] w λe w'=>e=.returned (ab 0)/\am w w':=by
 have f:(b !=4)=true:=by simpa using c
 clear c;go_enter func88,ntmps88;go_wp2_with fail
 go_ret
 exact⟨rfl,aS _ _⟩
theorem Jh(n:Nat)(ih:QZ n)(M:Int)(s:aq)(a:ar)(pc len:Nat)(p:List (Tm n))(j:Hid (p.length=len))(B:Nat)(w:ag)(f:Hid (p=[]\/∃b o,a=some ⟨b,o,none⟩/\b<B/\∀(i:Nat)(y:Tm n),p[i]?=some y->dH w b (o+i*4) n y/\In B w n y))(u:B<=w.heap.size)(D:Hid (1+(p.flatMap λy=>aC n y).length<=2097152)):ao 88 #[.agg #[ab 4,ab M,af s,ae a len pc]] w λe w'=> e=.returned (ab (1+(p.map λy=>1+sz n y).sum))/\am w w':=by
 have S:len<=2097152:=by have r:=yg n p;have O:=D.out;rw[<-j.out];omega
 go_enter func88,ntmps88;go_wp2_with fail;go_loopw [3,16] (λt i wr=>∃k:Nat,∃g:Int,k<=len/\i=ab k/\t=ab g/\Hid (g=qr n p k)/\am w wr) (λ_ i _=>len-(intOf i).toNat)
 case atStart=>exact⟨0,1+len,by omega,rfl,rfl,by simp only[Hid,qr];rw[j.out];simp,aS _ _⟩
 case round=>
  obtain⟨k,g,P,rfl,rfl,v,c⟩:=hrel;have q:=Db n p k;rw[<-v.out]at q;have I:=D.out;have U:0<=g:=q.1;have V:g<=6291456:=by omega
  clear q;by_cases K:k<len
  ·obtain⟨x,h⟩:∃x,p[k]?=some x:=⟨p[k]'(by rw[j.out];exact K),aN _⟩;have G:=ap (Fi n p k x h);have H:=kJ p x (aL h);have E:(aC n x).length<=2097152:=by omega
   have z:=ft n x;have ad:0<=sz n x:=z.1;have ah:sz n x<=4194304:=by omega
   clear H I z;rcases f.out with f|⟨T,po,rfl,L,f⟩
   ·subst f;simp at h
   obtain⟨l,m⟩:=f k x h;replace l:=l.below (c.mono u) L;replace m:=m.below (c.mono u);clear f h;cases n with
   | zero=>exact l.elim
   | succ n=>
   obtain⟨W,X,Y,Z⟩:=l;have A:B<=wr.heap.size:=aF u c.size
   have F:Hid (∀d,am wr d->ao 88 #[.agg #[ab x.1.1,ab x.1.2.1,af x.1.2.2,ae x.2.1.1 x.2.2.length x.2.1.2]] d λe w'=>e=.returned (ab (sz (n+1) x))/\am d w'):=
    λd r=>ih x B d (m.below (r.mono A)) (aF A r.size) E
   clear ih m E;generalize x.2.2.length=aa at*;generalize sz (n+1) x=N at*;have Q:(0:Int)<=(k:Int):=by omega
   have R:(k:Int)<(len:Int):=by omega
   go_wp2_with fail;refine(F _ (aS _ _)).mono ?_;rintro e d ⟨rfl,C⟩;have J:am w d:=(c.trans ((aS _ _).mono c.size)).trans (C.mono (by have:=c.size;simp;omega));clear C;go_wp2_with fail;go_roundw
   case rel=>exact⟨k+1,g+N,by omega,by go_num,by go_num,by simp only[Hid];rw[G.out,<-v.out],J⟩
   case measure=>simp[intOf];omega
  ·go_wp2_with fail
   go_ret
   refine⟨jK ?_,c⟩;rw[v.out,Ji n p k (by rw[j.out];omega)]
theorem yZ(n:Nat):QZ n:=by
 induction n with
 | zero=>intro x i b g;exact g.elim
 | succ n ih=>
  intro x i b g o l;obtain⟨⟨k,e,d⟩,⟨c,pc⟩,a⟩:=x;obtain⟨⟨_,_,_,r,q⟩,j⟩:=g;simp only at r q j;have p:(aC (n+1) ((k,e,d),(c,pc),a)).length=1+(a.flatMap λh=>aC n h).length:=by simp only[aC,bA];omega
  rw[p]at l;show ao 88 #[.agg #[ab k,ab e,af d,ae c a.length pc]] b λm s=>m=.returned (ab (if k=4 then 1+(a.map λh=>1+sz n h).sum else 0))/\am b s;by_cases f:k=4
  ·subst f;exact Jh n ih e d c pc a.length a rfl i b j o l
  ·rw[if_neg f];exact Fg k e d c a.length pc b f
theorem C8(w:ag)(k g:Int)(s:aq)(a:ar)(l c:Nat)(j:Bool)(d n:Int)(D:Hid (∀w1,am w w1->ao 86 #[.agg #[ab k,ab g,af s,ae a l c]] w1 λe w'=>e=.returned (.bool j)/\am w1 w'))(C:Hid (∀w1,am w w1->ao 87 #[.agg #[ab k,ab g,af s,ae a l c]] w1 λe w'=>e=.returned (ab d)/\am w1 w'))(E:Hid (∀w1,am w w1->ao 88 #[.agg #[ab k,ab g,af s,ae a l c]] w1 λe w'=>e=.returned (ab n)/\am w1 w')):ao 53 #[.agg #[ab k,ab g,af s,ae a l c]] w λe w'=>e=.returned (ab (if j then if 12<d\/200<n then 2 else 0 else 5))/\am w w':=by
 generalize A:(if j then if 12<d\/200<n then (2:Int)else 0 else 5)=I;have i:=ap A;clear A;go_enter func53,ntmps53;go_wp2_with fail;refine(D _ (aS _ _)).mono ?_;rintro e w1 ⟨rfl,m⟩;have f:Hid (am w w1/\w.heap.size+1<=w1.heap.size):=⟨(aS _ _).trans (m.mono (by simp)),by have:=m.size;simpa using this⟩;have b:=aw m;simp only[ja]at b;have t:=(b w.heap.size 0 (by omega)).trans (by simp[go_sem]:_=some (Value.int .i64 k));have u:=(b w.heap.size 1 (by omega)).trans (by simp[go_sem]:_=some (Value.int .i64 g));have v:=(b w.heap.size 2 (by omega)).trans (by simp[go_sem]:_=some (Value.string s));have x:=(b w.heap.size 3 (by omega)).trans (by simp[go_sem]:_=some (Value.slice a l c));clear b m;cases j with
 | false=>
  go_wp2_with fail
  go_ret
  exact⟨jK (by rw[<-i.out];rfl),f.1⟩
 | true=>
  go_wp2_with fail;refine(C _ f.1).mono ?_;rintro e G ⟨rfl,q⟩;have h:Hid (am w G):=f.1.trans (q.mono f.1.size);have b:=aw q;have F:=f.2;replace t:=(b w.heap.size 0 (by omega)).trans t;replace u:=(b w.heap.size 1 (by omega)).trans u;replace v:=(b w.heap.size 2 (by omega)).trans v;replace x:=(b w.heap.size 3 (by omega)).trans x;clear b q F;by_cases y:12<d
  ·have o:=ap y;go_wp2_with fail
   go_ret
   exact⟨jK (by rw[<-i.out,if_pos trivial,if_pos (aj o.out)]),h⟩
  ·have o:=ap y;go_wp2_with fail;refine(E _ h).mono ?_;rintro e H ⟨rfl,z⟩;have r:Hid (am w H):=h.trans (z.mono h.size);clear z;by_cases B:200<n
   ·have p:=ap B;go_wp2_with fail
    go_ret
    exact⟨jK (by rw[<-i.out,if_pos trivial,if_pos (ak p.out)]),r⟩
   ·have p:=ap B;go_wp2_with fail
    go_ret
    exact⟨jK (by rw[<-i.out,if_pos trivial,if_neg (by have:=o.out;have:=p.out;omega)]),r⟩
def xH(n:Nat)(x:Tm n):Int:=if cr n x then if 12<fU n x\/200<sz n x then 2 else 0 else 5
theorem C7(n:Nat)(x:Tm n)(B:Nat)(w:ag)(d:In B w n x)(b:B<=w.heap.size)(f:(aC n x).length<=2097152):ao 53 #[dG n x] w λe w'=>e=.returned (ab (xH n x))/\am w w':=by
 cases n with
 | zero=>exact d.elim
 | succ n=>
 exact C8 w x.1.1 x.1.2.1 x.1.2.2 x.2.1.1 x.2.2.length x.2.1.2 (cr (n+1) x) (fU (n+1) x) (sz (n+1) x)
  (λc a=>DX (n+1) x B c (d.below (a.mono b)) (aF b a.size))
  (λc a=>G1 (n+1) x B c (d.below (a.mono b)) (aF b a.size) f)
  (λc a=>yZ (n+1) x B c (d.below (a.mono b)) (aF b a.size) f)
theorem mi:(n:Nat)->(x:Tm n)->cr n x=(aC n x).all cQ
 | 0,_=>by simp[cr,aC,cQ]
 | n+1,x=>by
  have e:(aC (n+1) x).all cQ=(cQ (bO n x) && (x.2.2.flatMap λy=>aC n y).all cQ):=rfl;rw[e];simp only[cr];cases hg:cQ (bO n x)
  ·rfl
  ·rw[eV,eV];by_cases b:x.1.1=4
   ·rw[b];have key:∀l:List (Tm n),(l.all λy=>cr n y)=(l.flatMap λy=>aC n y).all cQ:=by
     intro l
     induction l with
     | nil=>rfl
     | cons y l ih=>simp only[jE,bP,lf,ih,mi n y]
    rw[key];simp
   ·have c:x.2.2=[]:=by
      unfold cQ at hg;simp only[aK,iT,cv]at hg;rcases hg.2 with a|a
      ·exact(b a).elim
      ·have:¬(0:Int)<(x.2.2.length:Int):=by simpa [bO]using a
       exact bL (by omega)
    rw[c];simp
def ot:List Nd->List Int->Int->Int
 | x::l,d::ds,m=>ot l ds (nQ x d m)
 | _,_,m=>m
theorem Bj(g:Int):(l:List Nd)->(b:List Int)->(m:Int)->l.length=b.length->DK g l b m=if l.all cQ then (if 12<ot l b m\/200<g then 2 else 0)else 5
 | [],_,_,_=>rfl
 | x::l,[],_,a=>by simp at a
 | x::l,d::b,m,a=>by
  have ih:=Bj g l b (nQ x d m) (by simpa using a);simp only[DK,ot];by_cases f:cQ x=true
  ·have e:(x::l).all cQ=l.all cQ:=by simp[f]
   rw[if_pos f,ih];by_cases c:l.all cQ=true
   ·rw[if_pos c,if_pos (e.trans c)];rfl
   ·rw[if_neg c,if_neg (λa=>c (e.symm.trans a))]
  ·rw[if_neg f,if_neg (λa=>f (cJ.1 a x (by simp)))]
theorem rM:(l r:List Nd)->(a es:List Int)->(m:Int)->l.length=a.length->ot (l++r) (a++es) m=ot r es (ot l a m)
 | [],_,[],_,_,_=>rfl
 | [],_,_::_,_,_,h=>by simp at h
 | _::_,_,[],_,_,h=>by simp at h
 | x::l,r,d::a,es,m,h=>by
  simp only[eW,ot];exact rM l r a es _ (by simpa using h)
theorem BH{n:Nat}(c:Int):(p:List (Tm n))->(m e:Int)->p.foldl (λm y=>max m (c+fU n y)) (max m (c+e))=max m (c+p.foldl (λm y=>max m (fU n y)) e)
 | [],_,_=>rfl
 | y::p,m,e=>by
  simp only[gU];have a:max (max m (c+e)) (c+fU n y)=max m (c+max e (fU n y)):=by omega
  rw[a];exact BH c p m (max e (fU n y))
theorem Bv:(n:Nat)->(x:Tm n)->(d m:Int)->(∀a∈aC n x,cQ a=true)->d<=m->ot (aC n x) (qk n x d) m=max m (d+fU n x)
 | 0,x,_,_,h,_=>by
  have:=h ((0,0,.empty),(none,0,0)) (by simp[aC]);rcases kP _ this with g|g|g|g|g|⟨g,_⟩<;>simp at g
 | n+1,x,d,m,h,k=>by
  have f:=h (bO n x) (by simp[aC,bO]);have key:∀(p:List (Tm n))(m:Int),(∀y∈p,y∈x.2.2)->d+1<=m->ot (p.flatMap λy=>aC n y) (p.flatMap λy=>qk n y (d+1)) m=p.foldl (λm y=>max m (d+1+fU n y)) m:=by
   intro p
   induction p with
   | nil=>intro m _ _;rfl
   | cons y p ih=>
    intro m l k;simp only[bP,gU];rw[rM _ _ _ _ _ (kF n y (d+1)).symm,Bv n y (d+1) m (λa q=>h a (pw (l y (by simp)) q)) k];exact ih _ (λu t=>l u (by simp[t])) (by omega)
  have o:ot (aC (n+1) x) (qk (n+1) x d) m=ot (x.2.2.flatMap λy=>aC n y) (x.2.2.flatMap λy=>qk n y (d+1)) (nQ (bO n x) d m):=rfl;rw[o];simp only[fU];by_cases b:x.1.1=4
  ·rw[if_pos b];have c:nQ (bO n x) d m=max m (d+1+0):=by
    unfold nQ bO;by_cases j:m<d+1
    ·rw[if_pos ⟨b,j⟩];omega
    ·rw[if_neg (λi=>j i.2)];omega
   rw[c,key x.2.2 _ (λ_ s=>s) (by omega),BH];omega
  ·rw[if_neg b];have r:x.2.2=[]:=by
    unfold cQ at f;simp only[aK,iT,cv]at f;rcases f.2 with e|e
    ·exact(b e).elim
    ·have:¬(0:Int)<(x.2.2.length:Int):=by simpa [bO]using e
     exact bL (by omega)
   have c:nQ (bO n x) d m=m:=G0 _ (λi=>b i.1);rw[r,c];simp only[List.flatMap_nil,ot];omega
theorem gR(n:Nat)(x:Tm n):xH n x=bJ n x:=by
 unfold xH bJ;rw[Bj _ _ _ _ (kF n x 0).symm,<-mi n x];by_cases a:cr n x=true
 ·rw[if_pos a,if_pos a];have d:∀b∈aC n x,cQ b=true:=by
   rw[mi n x]at a;exact λb c=>cJ.1 a b c
  have e:=gB n x;rw[Bv n x 0 0 d (by omega)];have:max (0:Int) (0+fU n x)=fU n x:=by omega
  rw[this]
 ·rw[if_neg a,if_neg a]
theorem eq(n:Nat)(x:Tm n)(B:Nat)(w:ag)(c:In B w n x)(a:B<=w.heap.size)(b:(aC n x).length<=2097152):ao 53 #[dG n x] w λe w'=>e=.returned (ab (bJ n x))/\am w w':=by
 rw[<-gR];exact C7 n x B w c a b
def Ck(n:Nat)(y:Tm n):Bool:=bJ n y==0 && (cg ⟨n,y⟩==6 || kE n y)
def gJ(n:Nat)(q:List (Tm n)):Bool:=decide (q.length=4) && q.all (Ck n)
def fZ(B:Nat)(w:ag)(n:Nat)(q:List (Tm n))(a:ar):Prop:=
 q=[]\/∃b o,a=some ⟨b,o,none⟩/\b<B/\∀(d:Nat)(c:Tm n),q[d]?=some c->dH w b (o+d*4) n c/\In B w n c
theorem fZ.below{B:Nat}{w w':ag}(d:Below B w w'){n:Nat}{q:List (Tm n)}{a:ar}(k:fZ B w n q a):fZ B w' n q a:=by
 rcases k with c|⟨b,o,i,e,c⟩
 ·exact aj c
 ·exact ak ⟨b,o,i,e,λg h f=>⟨(c g h f).1.below d e,(c g h f).2.below d⟩⟩
theorem rD{a:Type}(f:a->Bool)(q:List a)(k:Nat)(y:a)(c:q[k]?=some y):(q.drop k).all f=(f y && (q.drop (k+1)).all f):=by
 obtain⟨d,b⟩:=aZ.1 c;rw[eX d,b];rfl
theorem ML(a:ar)(len pc:Nat)(w:ag)(_hl:len<=9223372036854775807)(b:((len:Int) !=4)=true):ao 183 #[ae a len pc] w λe w'=>e=.returned (.bool false)/\w'=w:=by
 go_enter func183,ntmps183;go_wp2_with fail
 go_ret
 exact⟨rfl,rfl⟩
theorem GG(n:Nat)(q:List (Tm n))(z po pc:Nat)(B:Nat)(w:ag)(L:Hid (q.length=4))(R:z<B)(K:∀(i:Nat)(y:Tm n),q[i]?=some y->dH w z (po+i*4) n y/\In B w n y)(H:∀y∈q,(aC n y).length<=2097152)(C:B<=w.heap.size):ao 183 #[ae (some ⟨z,po,none⟩) 4 pc] w λe w'=>e=.returned (.bool (q.all (Ck n)))/\am w w':=by
 go_enter func183,ntmps183;go_wp2_with fail;go_loopw [10] (λi wr=>∃k:Nat,k<=4/\i=ab k/\am w wr/\Hid ((q.drop k).all (Ck n)=q.all (Ck n))) (λi _=>4-(intOf i).toNat)
 case atStart=>exact⟨0,by omega,rfl,aA _ _,rfl⟩
 case round=>
  obtain⟨k,X,rfl,b,j⟩:=hrel;by_cases Q:k<4
  ·obtain⟨x,u⟩:∃x,q[k]?=some x:=⟨q[k]'(by rw[L.out];exact Q),aN _⟩;have r:=ap (rD (Ck n) q k x u);obtain⟨v,l⟩:=K k x u;have I:=H x (aL u);replace v:=v.below (b.mono C) R;replace l:=l.below (b.mono C);clear K u H;cases n with
   | zero=>exact v.elim
   | succ n=>
   obtain⟨T,U,V,W⟩:=v;have s:B<=wr.heap.size:=aF C b.size
   have F:Hid (∀a,am wr a->ao 53 #[.agg #[ab x.1.1,ab x.1.2.1,af x.1.2.2,ae x.2.1.1 x.2.2.length x.2.1.2]] a λe w'=>e=.returned (ab (bJ (n+1) x))/\am a w'):=
    λa h=>eq (n+1) x B a (l.below (h.mono s)) (aF s h.size) I
   have N:Hid (∀a,am wr a->ao 54 #[.agg #[ab x.1.1,ab x.1.2.1,af x.1.2.2,ae x.2.1.1 x.2.2.length x.2.1.2]] a λe w'=>e=.returned (.bool (aT (n+1) x))/\am a w'):=
    λa h=>jk (n+1) x B a (l.below (h.mono s)) (aF s h.size)
   have p:Hid (Ck (n+1) x=(bJ (n+1) x==0 && (x.1.1==6 || aT (n+1) x))):=by unfold Hid Ck;rw[fR];rfl
   clear l I;generalize x.2.2.length=ad at*;generalize aT (n+1) x=cl at*;generalize bJ (n+1) x=g at*;generalize Ck (n+1) x=ok at*;have Y:(0:Int)<=(k:Int):=by omega
   have Z:(k:Int)<(4:Int):=by omega
   have aa:z<wr.heap.size:=by omega
   have E:Hid (∀o,am wr (wr.alloc o)):=λo=>aS _ _;go_wp2_with fail;refine(F _ (E _)).mono ?_;rintro e a ⟨rfl,t⟩;obtain⟨⟨t0,t1,t2,t3⟩,_⟩:=FD t;have A:Hid (am wr a):=(E _).trans (t.mono (by simp));have O:Hid (wr.heap.size<a.heap.size):=by have:=t.size;simp at this;unfold Hid;omega
   clear t T U V W F;by_cases d:g=0
   ·have P:(g !=0)=false:=by simp[d]
    have f:Hid (g=0):=d;clear d;go_wp2_with fail;refine(jQ _ _ _ _ _ _ _).mono ?_;rintro e M ⟨rfl,D⟩;obtain⟨t4,t5,t6,t7⟩:=oF O D ⟨t0,t1,t2,t3⟩;have m:Hid (am wr M):=A.trans (D.mono A.size);clear D t0 t1 t2 t3;cases G:x.1.1==6
    ·simp only[Bool.not_false];go_wp2_with fail;refine(N _ m).mono ?_;rintro e S ⟨rfl,J⟩;have c:am w S:=b.trans ((m.trans (J.mono m.size)).mono b.size);clear J;cases cl with
     | true=>
      go_wp2_with fail;go_roundw
      case rel=>exact⟨k+1,by omega,by go_num,c,by rw[<-j.out,r.out,p.out,f.out];simp[Hid]⟩
      case measure=>simp[intOf];omega
     | false=>
      go_wp2_with fail
      go_ret
      exact⟨fq (by rw[<-j.out,r.out,p.out,f.out,G];simp),c⟩
    ·simp only[Bool.not_true];have c:am w M:=b.trans (m.mono b.size);go_wp2_with fail;go_roundw
     case rel=>exact⟨k+1,by omega,by go_num,c,by rw[<-j.out,r.out,p.out,f.out,G];simp[Hid]⟩
     case measure=>simp[intOf];omega
   ·have P:(g !=0)=true:=by simpa using d
    have f:Hid ((g==0)=false):=by simpa [Hid]using d
    have c:am w a:=b.trans (A.mono b.size);clear d;go_wp2_with fail
    go_ret
    exact⟨fq (by rw[<-j.out,r.out,p.out,f.out];simp),c⟩
  ·go_wp2_with fail
   go_ret
   refine⟨fq ?_,b⟩;rw[<-j.out,gt (by rw[L.out];omega)];rfl
theorem A9(n:Nat)(q:List (Tm n))(a:ar)(pc B:Nat)(w:ag)(d:fZ B w n q a)(i:q.length<=9223372036854775807)(g:∀y∈q,(aC n y).length<=2097152)(f:B<=w.heap.size):ao 183 #[ae a q.length pc] w λe w'=>e=.returned (.bool (gJ n q))/\am w w':=by
 unfold gJ;by_cases c:q.length=4
 ·rcases d with d|⟨b,o,rfl,h,j⟩
  ·rw[d]at c;simp at c
  ·have k:=GG n q b o pc B w c h j g f;rw[c];simpa using k
 ·refine(ML a q.length pc w i (by simp;omega)).mono ?_;rintro e w' ⟨rfl,rfl⟩;exact⟨by simp[c],aA _ _⟩
def bf:(N:Nat)->(n:Nat)->Tm n->Tm N
 | 0,_,_=>()
 | _+1,0,_=>((0,0,.empty),(none,0),[])
 | N+1,n+1,x=>(x.1,x.2.1,x.2.2.map λy=>bf N n y)
theorem Nu(N n:Nat)(x:Tm (n+1)):gK (N+1) (bf (N+1) (n+1) x)=gK (n+1) x:=by simp[gK,bO,bf]
theorem yh(N n:Nat)(g:n<=N)(x:Tm n)(w:ag)(b o:Nat)(k:dH w b o n x):dH w b o N (bf N n x):=by
 cases n with
 | zero=>exact k.elim
 | succ n=>
  obtain⟨N,rfl⟩:∃a,N=a+1:=⟨N-1,by omega⟩;obtain⟨c,d,e,f⟩:=k;exact⟨c,d,e,by simpa [bf]using f⟩
theorem pt:(N n:Nat)->n<=N->(x:Tm n)->(B:Nat)->(w:ag)->In B w n x->In B w N (bf N n x)
 | _,0,_,_,_,_,k=>k.elim
 | 0,n+1,h,_,_,_,_=>by omega
 | N+1,n+1,h,x,B,w,k=>by
  obtain⟨j,a⟩:=k;refine⟨by simpa [bf]using j,?_⟩;rcases a with a|⟨b,o,e,g,a⟩
  ·exact aj (by simp[bf,a])
  ·refine ak ⟨b,o,e,g,λi y d=>?_⟩;simp only[bf,dn]at d;obtain⟨c,f,rfl⟩:=cG.1 d;exact⟨yh N n (by omega) c w b _ (a i c f).1,pt N n (by omega) c B w (a i c f).2⟩
theorem nW:(N n:Nat)->n<=N->(x:Tm (n+1))->aC (N+1) (bf (N+1) (n+1) x)=aC (n+1) x
 | N,0,_,x=>by
  have:∀l:List (Tm 0),(l.map λy=>bf N 0 y).flatMap (λy=>aC N y)=l.flatMap λy=>aC 0 y:=by
   intro l
   induction l with
   | nil=>rfl
   | cons a l ih=>
    simp only[aV,bP,ih];congr 1;cases N with
    | zero=>rfl
    | succ N=>simp[bf,aC]
  simp only[aC,bf,dS,this]
 | 0,n+1,h,_=>by omega
 | N+1,n+1,h,x=>by
  have:∀l:List (Tm (n+1)),(l.map λy=>bf (N+1) (n+1) y).flatMap (λy=>aC (N+1) y)=l.flatMap λy=>aC (n+1) y:=by
   intro l
   induction l with
   | nil=>rfl
   | cons a l ih=>
    simp only[aV,bP,ih];rw[nW N n (by omega) a]
  have b:aC (N+2) (bf (N+2) (n+2) x)=(x.1,(x.2.1.1,(x.2.2.map λy=>bf (N+1) (n+1) y).length,x.2.1.2))::(x.2.2.map λy=>bf (N+1) (n+1) y).flatMap λy=>aC (N+1) y:=rfl;rw[b,this];simp[aC]
def nJ(b:List An):Nat:=b.foldr (λa m=>max a.1 m) 0
theorem AM(b:List An):∀a∈b,a.1<=nJ b:=by
 induction b with
 | nil=>intro a d;cases d
 | cons c b ih=>
  intro a d;simp only[nJ,List.foldr_cons];rcases cY.1 d with rfl|d
  ·omega
  ·have:=ih a d;unfold nJ at this;omega
def De(b:List An):List (Tm (nJ b)):=b.map λa=>bf (nJ b) a.1 a.2
theorem Ma(b:List An)(i:Nat)(y:Tm (nJ b))(c:(De b)[i]?=some y):∃a,b[i]?=some a/\a.1<=nJ b/\y=bf (nJ b) a.1 a.2:=by
 simp only[De,dn]at c;obtain⟨a,d,rfl⟩:=cG.1 c;exact⟨a,d,AM b a (aL d),rfl⟩
theorem Mb{base g c B:Nat}{b:List An}{w:ag}(e:nL base g c b w)(k:∀y∈b,Gx B w y)(j:B<=w.heap.size):fZ w.heap.size w (nJ b) (De b) (some ⟨g,0,none⟩):=by
 refine ak ⟨g,0,rfl,e.lt.2,λa y m=>?_⟩;obtain⟨d,f,i,rfl⟩:=Ma b a y m;have h:=k d (aL f);refine⟨?_,(pt _ _ i _ _ _ h).mono j⟩;obtain⟨n,x⟩:=d;have l:=e.cells a _ f;cases n with
 | zero=>exact h.elim
 | succ n=>
  rw[cT];exact yh _ _ i x w g (a*4) l
theorem Js{b:List An}(f:∀y∈b,aJ y/\y.1≠0):∀y∈De b,aJ ⟨nJ b,y⟩:=by
 intro y k;obtain⟨m,h⟩:=dp k;obtain⟨e,g,i,rfl⟩:=Ma b m y h;have j:=f e (aL g);obtain⟨n,x⟩:=e;cases n with
 | zero=>exact(j.2 rfl).elim
 | succ n=>
  intro o c;clear h k g f;generalize nJ b=d at*;obtain⟨a,rfl⟩:∃a,d=a+1:=⟨d-1,by simp only at i;omega⟩;have l:=nW a n (by simp only at i;omega) x;simp only at c;rw[l]at c;exact j.1 o c
theorem jv{c β:Type}(f:c->β->Bool):(p:List c)->(q:List β)->(x:c)->(y:β)->aG f p q=true->f x y=true->aG f (p++ [x]) (q++ [y])=true
 | [],[],x,y,_,h=>by simp[aG,h]
 | [],_::_,_,_,h,_=>by simp[aG]at h
 | _::_,[],_,_,h,_=>by simp[aG]at h
 | a::p,b::q,x,y,h,k=>by
  simp only[aG,aK,eW]at h ⊢;exact⟨h.1,jv f p q x y h.2 k⟩
theorem cW{c β:Type}(f:c->β->Bool):(p:List c)->(q:List β)->aG f p q=true->p.length=q.length
 | [],[],_=>rfl
 | [],_::_,h=>by simp[aG]at h
 | _::_,[],h=>by simp[aG]at h
 | a::p,b::q,h=>by
  simp only[aG,aK]at h;simp[cW f p q h.2]
def zA:An:=⟨1,((0,0,.empty),(none,0),[])⟩
theorem If(n:Nat):(madeCells #[ab 0,ab 0,af .empty,ae none 0 0] (n*4)).toList=gz (List.replicate n zA):=by
 apply List.ext_getElem?;intro b;by_cases e:b<n*4
 ·obtain⟨k,a,f,rfl⟩:∃k a,a<4/\b=k*4+a:=⟨b / 4,b % 4,Nat.mod_lt _ (by decide),by omega⟩;have g:k<n:=by omega
  have c:(gz (List.replicate n zA))[k*4+a]?=(uk (tO zA))[a]? :=jr _ k (tO zA) (by simp[g]) a f;rw[c];have d:(madeCells #[ab 0,ab 0,af .empty,ae none 0 0] (n*4))[k*4+a]?=some ((#[ab 0,ab 0,af .empty,ae none 0 0]:Array au)[(k*4+a) % 4]!):=by
   simp[madeCells,e]
  rw[nv,d,show (k*4+a) % 4=a by omega];have:a=0\/a=1\/a=2\/a=3:=by omega
  rcases this with rfl|rfl|rfl|rfl<;>rfl
 ·rw[eY (by simp[size_madeCells];omega),eY (by rw[lH];simp;omega)]
def uS(n:Nat)(p:List (Tm n))(len g k:Nat)(l:List (Tm n))(wr:ag):Prop:=
 l.length=k/\nL g g len (l.map (λx=>(⟨n,x⟩:An))++List.replicate (len-k) zA) wr/\(∀a∈l,In wr.heap.size wr n a/\cD (λd=>g<d) n a)/\aG (λc b=>aB n c n b) l (p.take k)=true
theorem uS.step{n:Nat}{p:List (Tm n)}{len g k:Nat}{l:List (Tm n)}{wr w1:ag}(j:uS n p len g k l wr)(w:k<len)(x:Tm n)(u:p[k]?=some x)(c:am wr w1)(y:Tm n)(v:In w1.heap.size w1 n y)(h:cD (λq=>g<q) n y)(s:aB n y n x=true):uS n p len g (k+1) (l++ [y]) (jT w1 g (k*4) (gK n y)):=by
 obtain⟨e,m,b,o⟩:=j;have f:=(m.below c).put k ⟨n,y⟩ (by simp;omega);have i:(l.map (λx=>(⟨n,x⟩:An))++List.replicate (len-k) zA).set k ⟨n,y⟩=(l++ [y]).map (λx=>(⟨n,x⟩:An))++List.replicate (len-(k+1)) zA:=by
  rw[iV _ _ (by simp;omega)];have:len-k=(len-(k+1))+1:=by omega
  rw[this,List.replicate_succ];simp[e]
 rw[i]at f;refine⟨by simp[e],f,?_,?_⟩
 ·intro d a;have t:(jT w1 g (k*4) (gK n y)).heap.size=w1.heap.size:=bG _ _ _ _;rw[t];rcases de.1 a with a|a
  ·exact⟨In.off (λq r=>bm (by omega) _ _ _ _) (b d a).2 (((b d a).1.below c).mono c.size),(b d a).2⟩
  ·simp only[dC]at a;subst a;exact⟨In.off (λq r=>bm (by omega) _ _ _ _) h v,h⟩
 ·rw[dF,u];exact jv _ _ _ _ _ o s
def il(n:Nat)(p:List (Tm n))(w w':ag)(a:ar)(c:Nat)(l:List (Tm n)):Prop:=
 am w w'/\l.length=p.length/\l.length<=c/\c<=maxLen/\aG (λa b=>aB n a n b) l p=true/\
 (l=[]\/∃b o,a=some ⟨b,o,none⟩/\(w.heap.size<=b/\o=0/\(∀g,w'.frozen? ⟨b,g,none⟩=false)/\∀d∈l,cD (λe=>e≠b) n d)/\b<w'.heap.size/\∀(f:Nat)(d:Tm n),l[f]?=some d->dH w' b (o+f*4) n d/\In w'.heap.size w' n d/\cD (λe=>w.heap.size<=e) n d)
theorem uS.done{n:Nat}{p:List (Tm n)}{len k:Nat}{l:List (Tm n)}{w wr:ag}(f:uS n p len w.heap.size k l wr)(u:p.length=len)(j:k=len)(g:am w wr)(m:len<=maxLen):il n p w wr (some ⟨w.heap.size,0,none⟩) len l:=by
 obtain⟨t,c,d,e⟩:=f;subst j;rw[bD (by omega)]at e;rw[gu,nC,dQ]at c;refine⟨g,by omega,by omega,m,e,ak ⟨w.heap.size,0,rfl,⟨av _,rfl,λr=>c.free r,λb a=>(d b a).2.mono λs o=>by omega⟩,c.lt.2,λq b a=>⟨?_,(d b (aL a)).1,(d b (aL a)).2.mono λs o=>by omega⟩⟩⟩;have h:=c.cells q ⟨n,b⟩ (by simp[a]);have i:=(d b (aL a)).1;cases n with
 | zero=>exact i.elim
 | succ n=>
  rw[cT];exact h
def Qz(n:Nat):Prop:=∀(x:Tm n)(B:Nat)(w:ag),In B w n x->B<=w.heap.size->aJ ⟨n,x⟩->
 ao 56 #[dG n x] w λe w'=>∃y:Tm n,e=.returned (dG n y)/\Hid (am w w'/\In w'.heap.size w' n y/\cD (λq=>w.heap.size<=q) n y/\aB n y n x=true)
theorem vi{s t:aq}(b:(s.toList==t.toList)=true):s=t:=by
 have a:s.toList=t.toList:=by simpa using b
 rw[cI,cI]at a;cases s;cases t;simp only at a;rw[Array.toList_inj.1 a]
theorem bQ{n m:Nat}{x:Tm (n+1)}{y:Tm (m+1)}(c:aB (n+1) x (m+1) y=true):x.1=y.1/\aG (λa b=>aB n a m b) x.2.2 y.2.2=true:=by
 simp only[aB,aK,cv]at c;obtain⟨⟨⟨d,e⟩,f⟩,g⟩:=c;refine⟨?_,g⟩;have h:=vi (s:=x.1.2.2) (t:=y.1.2.2) (by simpa using f);exact fO d (fO e h)
theorem dt{n m:Nat}{x:Tm (n+1)}{y:Tm (m+1)}(c:x.1=y.1)(k:aG (λa b=>aB n a m b) x.2.2 y.2.2=true):aB (n+1) x (m+1) y=true:=by
 simp only[aB,c,k];simp
theorem qT{c β:Type}(f:c->β->Bool)(g:β->c->Bool):(p:List c)->(q:List β)->(∀a∈p,∀b,f a b=true->g b a=true)->aG f p q=true->aG g q p=true
 | [],[],_,_=>rfl
 | [],_::_,_,h=>by simp[aG]at h
 | _::_,[],_,h=>by simp[aG]at h
 | a::p,b::q,hf,h=>by
  simp only[aG,aK]at h ⊢;exact⟨hf a (by simp) b h.1,qT f g p q (λd e=>hf d (bW _ e)) h.2⟩
theorem dX:(n:Nat)->(x:Tm n)->(m:Nat)->(y:Tm m)->aB n x m y=true->aB m y n x=true
 | 0,_,_,_,h=>by simp[aB]at h
 | _+1,_,0,_,h=>by simp[aB]at h
 | n+1,x,m+1,y,h=>by
  obtain⟨c,d⟩:=bQ h;exact dt c.symm (qT _ _ _ _ (λa _ b e=>dX n a m b e) d)
theorem oU{d β e:Type}(f:d->β->Bool)(g:β->e->Bool)(k:d->e->Bool):(p:List d)->(q:List β)->(r:List e)->(∀a∈p,∀b c,f a b=true->g b c=true->k a c=true)->aG f p q=true->aG g q r=true->aG k p r=true
 | [],[],[],_,_,_=>rfl
 | [],[],_::_,_,_,h=>by simp[aG]at h
 | [],_::_,_,_,h,_=>by simp[aG]at h
 | _::_,[],_,_,h,_=>by simp[aG]at h
 | _::_,_::_,[],_,_,h=>by simp[aG]at h
 | a::p,b::q,c::r,hf,h1,h2=>by
  simp only[aG,aK]at h1 h2 ⊢;exact⟨hf a (by simp) b c h1.1 h2.1,oU f g k p q r (λi j=>hf i (bW _ j)) h1.2 h2.2⟩
theorem bS:(n:Nat)->(x:Tm n)->(m:Nat)->(y:Tm m)->(l:Nat)->(d:Tm l)->aB n x m y=true->aB m y l d=true->aB n x l d=true
 | 0,_,_,_,_,_,h,_=>by simp[aB]at h
 | _+1,_,0,_,_,_,h,_=>by simp[aB]at h
 | _+1,_,_+1,_,0,_,_,h=>by simp[aB]at h
 | n+1,x,m+1,y,l+1,d,h,k=>by
  obtain⟨e,f⟩:=bQ h;obtain⟨j,o⟩:=bQ k;exact dt (e.trans j) (oU _ _ _ _ _ _ (λa _ b c g i=>bS n a m b l c g i) f o)
theorem ju{b:Type}(f:b->b->Bool):(p:List b)->(∀a∈p,f a a=true)->aG f p p=true
 | [],_=>rfl
 | a::p,h=>by
  simp only[aG,aK];exact⟨h a (by simp),ju f p λc d=>h c (bW _ d)⟩
theorem fT:(n:Nat)->(x:Tm n)->aJ ⟨n,x⟩->aB n x n x=true
 | 0,_,h=>(dA h).elim
 | n+1,x,h=>dt rfl (ju _ _ λy a=>fT n y (bj n x y h a))
theorem aU{n:Nat}{x:Tm n}:aJ ⟨n,x⟩ ↔ cr n x=true:=by
 rw[mi,cJ];exact Iff.rfl
theorem Nc{x:Int×Int×aq}{a b:ar}{l c d:Nat}:cQ (x,(a,l,c))=cQ (x,(b,l,d)):=rfl
theorem tm{c β:Type}(f:c->β->Bool)(g:c->Bool)(k:β->Bool):(p:List c)->(q:List β)->(∀a∈p,∀b,f a b=true->g a=k b)->aG f p q=true->p.all g=q.all k
 | [],[],_,_=>rfl
 | [],_::_,_,h=>by simp[aG]at h
 | _::_,[],_,h=>by simp[aG]at h
 | a::p,b::q,hf,h=>by
  simp only[aG,aK]at h;simp only[jE,hf a (by simp) b h.1,tm f g k p q (λd e=>hf d (bW _ e)) h.2]
theorem kU{c β d:Type}(f:c->β->Bool)(g:c->d)(k:β->d):(p:List c)->(q:List β)->(∀a∈p,∀b,f a b=true->g a=k b)->aG f p q=true->p.map g=q.map k
 | [],[],_,_=>rfl
 | [],_::_,_,h=>by simp[aG]at h
 | _::_,[],_,h=>by simp[aG]at h
 | a::p,b::q,hf,h=>by
  simp only[aG,aK]at h;simp only[aV,hf a (by simp) b h.1,kU f g k p q (λe i=>hf e (bW _ i)) h.2]
theorem vA{b:Type}(g:b->Int):(p:List b)->(i:Int)->p.foldl (λm y=>max m (g y)) i=(p.map g).foldl max i
 | [],_=>rfl
 | a::p,i=>by simp only[gU,aV];exact vA g p _
theorem cR:(n:Nat)->(x:Tm n)->(m:Nat)->(y:Tm m)->aB n x m y=true->aT n x=aT m y
 | 0,_,_,_,h=>by simp[aB]at h
 | _+1,_,0,_,h=>by simp[aB]at h
 | n+1,x,m+1,y,h=>by
  obtain⟨c,d⟩:=bQ h;simp only[aT,c];rw[tm _ _ _ _ _ (λa _ b e=>cR n a m b e) d]
theorem jW:(n:Nat)->(x:Tm n)->(m:Nat)->(y:Tm m)->aB n x m y=true->cr n x=cr m y
 | 0,_,_,_,h=>by simp[aB]at h
 | _+1,_,0,_,h=>by simp[aB]at h
 | n+1,x,m+1,y,h=>by
  obtain⟨a,c⟩:=bQ h;have e:cQ (bO n x)=cQ (bO m y):=by
   have g:=cW _ _ _ c;unfold bO;rw[a,g];exact Nc
  simp only[cr,e,a];rw[tm _ _ _ _ _ (λd _ b f=>jW n d m b f) c]
theorem mw:(n:Nat)->(x:Tm n)->(m:Nat)->(y:Tm m)->aB n x m y=true->sz n x=sz m y
 | 0,_,_,_,h=>by simp[aB]at h
 | _+1,_,0,_,h=>by simp[aB]at h
 | n+1,x,m+1,y,h=>by
  obtain⟨c,d⟩:=bQ h;simp only[sz,c];rw[kU _ (λy=>1+sz n y) (λy=>1+sz m y) _ _ (λa _ b e=>by rw[mw n a m b e]) d]
theorem CL:(n:Nat)->(x:Tm n)->(m:Nat)->(y:Tm m)->aB n x m y=true->fU n x=fU m y
 | 0,_,_,_,h=>by simp[aB]at h
 | _+1,_,0,_,h=>by simp[aB]at h
 | n+1,x,m+1,y,h=>by
  obtain⟨c,d⟩:=bQ h;simp only[fU,c];rw[vA (λy=>fU n y),vA (λy=>fU m y),kU _ (λy=>fU n y) (λy=>fU m y) _ _ (λa _ b e=>CL n a m b e) d]
theorem cd{n m:Nat}{x:Tm n}{y:Tm m}(a:aB n x m y=true):bJ n x=bJ m y:=by
 rw[<-gR,<-gR];unfold xH;rw[jW n x m y a,mw n x m y a,CL n x m y a]
theorem kV{n m:Nat}{x:Tm n}{y:Tm m}(a:aB n x m y=true):cg ⟨n,x⟩=cg ⟨m,y⟩:=by
 cases n with
 | zero=>simp[aB]at a
 | succ n=>
  cases m with
  | zero=>simp[aB]at a
  | succ m=>
   have:=(bQ a).1;simp only[cg,this]
theorem jV{c β:Type}(f:c->β->Bool):(p:List c)->(q:List β)->aG f p q=true->∀(i:Nat)(a:c)(b:β),p[i]?=some a->q[i]?=some b->f a b=true
 | [],_,_,i,a,b,ha,_=>by simp at ha
 | _::_,[],h,_,_,_,_,_=>by simp[aG]at h
 | a::p,b::q,h,0,a',b',ha,hb=>by
  simp only[aG,aK]at h;simp at ha hb;subst ha hb;exact h.1
 | a::p,b::q,h,i+1,a',b',ha,hb=>by
  simp only[aG,aK]at h;exact jV f p q h.2 i a' b' (by simpa using ha) (by simpa using hb)
theorem jt{b β:Type}(f:β->b->Bool)(g:b->β):(p:List b)->(∀a∈p,f (g a) a=true)->aG f (p.map g) p=true
 | [],_=>rfl
 | a::p,h=>by
  simp only[aV,aG,aK];exact⟨h a (by simp),jt f g p λc d=>h c (bW _ d)⟩
theorem fS:(N n:Nat)->n<=N->(x:Tm n)->aJ ⟨n,x⟩->aB N (bf N n x) n x=true
 | _,0,_,_,h=>(dA h).elim
 | 0,n+1,h,_,_=>by omega
 | N+1,n+1,h,x,hr=>dt rfl (jt _ _ _ λy a=>fS N n (by omega) y (bj n x y hr a))
end Go.Proofs.YtmmahddlcldmiaaGreat
