/- Proved here: plain facts and contracts. No condition but what each names. -/
import Derived.Test.YthjclakhibnamaaGreatDoorD02
import Derived.Test.YthjclakhibnamaaGreatDoorD03
import Derived.Lib.AtoiAllCases
import Derived.Lib.ItoaLen
import Derived.Test.YthjclakhibnamaaGreatDoorCards
import Derived.Lib.LaidTab
import Derived.Stop.LaidErr
import Derived.Shelf.Vars
import Derived.Deep.AppendLies
import Derived.Deep.Light
import Derived.Handy
import Derived.Deep.RegionHeld3
import Derived.Deep.DrawnRows
import Derived.Laws.MakeOwn
namespace Go.Proofs.YthjclakhibnamaaGreatDoor
open Go.RowKit Go.Proofs.Tryz
set_option maxRecDepth 100000
set_option maxHeartbeats 1000000
def iH:aq:=⟨#[99,111,100,101]⟩
def jI:aq:=⟨#[115,116,97,114,116]⟩
def sP:aq:=⟨#[114,117,110]⟩
def sO:aq:=⟨#[100,101,108,105,118,101,114]⟩
def qG:aq:=⟨#[105,110,106,101,99,116]⟩
def oy:aq:=⟨#[115,104,111,119]⟩
def gz:aq:=⟨#[97,108,105,118,101]⟩
def iS(e:Int):List UInt8:=[101,114,114,111,114,32]++Lib.itoa e
def iC(wd:aq):Option (Nat×Nat):=
 if wd=gz then some (0,0)else if wd=jI then some (0,1)else if wd=sP then some (1,0)else if wd=oy then some (1,0)
 else if wd=iH then some (1,1)else if wd=qG then some (1,1)else if wd=sO then some (2,0)else none
def vN(s:aq):Option Int:=match Lib.atoiAll s.data.toList with
 | .ok v=>if (0<=v/\v<=99)/\Lib.itoa v=s.data.toList then some v else none
 | _=>none
def mh(a:aq):Bool:=match a.data.toList with
 | []=>false
 | c::_=>c !=35
theorem DU(a b:List UInt8):(⟨a.toArray⟩:aq)++ ⟨b.toArray⟩=⟨(a++b).toArray⟩:=by
 apply ByteArray.ext;simp
variable{a:Bool}{B L N base c e g k len m n o q size:Nat}{p r:Obj}{d h:Type}{t t1 t2 t3 t4:TypeId}{w w' w1 w2 wr:ah}{s:aq}{f i j l u s0 s1 v v0 v1 v2 v3 y0 y1 y2:ax}{xs:dG}
theorem kH{l:List UInt8}(a:s.toList=l):s=⟨l.toArray⟩:=by
 rw[Lib.toList_data]at a;subst a;rfl
theorem Mj(c:UInt8)(k:UInt8):((c.toNat:Int) !=(k.toNat:Int))=(c !=k):=by
 by_cases d:c=k
 ·subst d;simp
 ·rw[(gT (a:=c) (b:=k)).2 d,gT];have:¬c.toNat=k.toNat:=λe=>d (UInt8.toNat_inj.1 e);omega
theorem Pf(s:aq)(w:ah):au 11 #[ag s] w λe w'=>e=.returned (.bool (mh s))/\w'=w:=by
 rcases s with⟨⟨l⟩⟩;cases l with
 | nil=>
  go_enter func11,ntmps11;go_wp2_with fail
  go_ret
  exact⟨rfl,rfl⟩
 | cons c l=>
  have a:(⟨⟨c::l⟩⟩:aq).toList.isEmpty=false:=by rw[Lib.toList_data];rfl
  have d:0<(⟨⟨c::l⟩⟩:aq).size:=Nat.zero_lt_succ _;have f:¬(⟨⟨c::l⟩⟩:aq).toList=[]:=by rw[Lib.toList_data];simp
  have g:(⟨⟨c::l⟩⟩:aq)[0]=c:=rfl;go_enter func11,ntmps11;go_wp2_with fail
  go_ret
  exact⟨congrArg (λb=>Ending.returned (.bool b)) (Mj c 35),rfl⟩
def P8(o:Option (Nat×Nat)):ax:=match o with
 | some (a,b)=> .tuple #[ae a,ae b,.bool true]
 | none=> .tuple #[ae 0,ae 0,.bool false]
theorem Ce(s:aq)(w:ah):au 32 #[ag s] w λe w'=>e=.returned (P8 (iC s))/\w'=w:=by
 by_cases j:s=gz\/s=jI\/s=sP\/s=oy\/s=iH\/s=qG\/s=sO
 ·rcases j with rfl|rfl|rfl|rfl|rfl|rfl|rfl
  all_goals
   simp only[gz,jI,sP,oy,iH,qG,sO];go_enter func32,ntmps32;go_wp2_with fail
   go_ret3
   exact⟨rfl,rfl⟩
 ·simp only[not_or]at j;obtain⟨b,c,d,f,g,h,i⟩:=j;have e:iC s=none:=by
   unfold iC;rw[if_neg b,if_neg c,if_neg d,if_neg f,if_neg g,if_neg h,if_neg i]
  rw[e];have k:(s.toList==[97,108,105,118,101])=false:=dK.2 λa=>b (kH a);have l:(s.toList==[115,116,97,114,116])=false:=dK.2 λa=>c (kH a);have m:(s.toList==[114,117,110])=false:=dK.2 λa=>d (kH a);have n:(s.toList==[115,104,111,119])=false:=dK.2 λa=>f (kH a);have o:(s.toList==[99,111,100,101])=false:=dK.2 λa=>g (kH a);have p:(s.toList==[105,110,106,101,99,116])=false:=dK.2 λa=>h (kH a);have q:(s.toList==[100,101,108,105,118,101,114])=false:=dK.2 λa=>i (kH a);clear b c d f g h i;go_enter func32,ntmps32;go_wp2_with fail
  go_ret3
  exact⟨rfl,rfl⟩
def Qy(v:ax):Prop:=v=.nilIface\/∃t p,v=.iface t p
def Cx(B:Nat)(w:ah):Prop:=xz B w/\∃(m:Int)(a b:ax),(Qy a/\Qy b)/\∀W,Below B w W->W.cell? ⟨0,0,none⟩=some (ae m)/\W.cell? ⟨4,0,none⟩=some a/\W.cell? ⟨5,0,none⟩=some b
theorem Cx.on{B:Nat}{w W:ah}(e:Cx B w)(a:Below B w W):Cx B W:=by
 obtain⟨f,j,c,d,g,h⟩:=e;exact⟨f.on a,j,c,d,g,λb i=>h b (a.trans i)⟩
theorem sf(e:Int)(a:dm e)(c:Cx B w):au 10 #[ae e] w λr w'=>r=.returned (ag ⟨(iS e).toArray⟩)/\ap w w':=by
 have b:=av (jS e a.1 a.2 B w c.1);have g:=Lib.itoa_length_le e a.1 a.2;have h:¬9223372036854775807<6+(Lib.itoa e).length:=by omega
 go_enter func10,ntmps10;go_wp2_with fail;refine b.out.mono ?_;rintro r i ⟨rfl,d⟩;go_wp2_with fail
 go_ret
 exact⟨congrArg (λf=>Ending.returned (ag f)) (DU [101,114,114,111,114,32] _),d⟩
def Qm(o:Option Int):ax:=match o with
 | some v=> .tuple #[ae v,.bool true]
 | none=> .tuple #[ae 0,.bool false]
theorem J9(s:aq)(c:s.size<=281474976710656)(g:Cx B w):au 49 #[ag s] w λe w'=>(∃v,Lib.atoiAll s.data.toList=.ok v/\e=.returned (.tuple #[ae v,.nilIface])/\ap w w')\/((∀v,Lib.atoiAll s.data.toList≠.ok v)/\∃(v:Int)(t:TypeId)(q:Nat),e=.returned (.tuple #[ae v,.iface t (aC q)])/\ap w w'):=by
 obtain⟨_,m,d,f,⟨k,l⟩,j⟩:=g;obtain⟨_,h,i⟩:=j w (aE _ _);cases hr:Lib.atoiAll s.data.toList with
 | ok v=>
  refine(Tryz.strconv_Atoi_ok s (by omega) v hr w).mono ?_;rintro e w' ⟨rfl,a⟩;refine ak ⟨v,rfl,rfl,?_⟩;rcases a with rfl|⟨t,rfl⟩
  ·exact aE _ _
  ·exact Lib.bytesWorld_below _ _ _
 | «syntax»=>
  refine(Tryz.strconv_Atoi_syntax s c hr d w h k).mono ?_;rintro e w' ⟨q,rfl,_,_,a⟩;exact am ⟨(λv b=>by cases b),_,_,q,rfl,a⟩
 | range=>
  refine(Tryz.strconv_Atoi_range s c hr f w i l).mono ?_;rintro e w' ⟨q,rfl,_,_,a⟩;exact am ⟨(λv b=>by cases b),_,_,q,rfl,a⟩
theorem Pa(t:TypeId)(q:Nat)(w:ah):(binOp .neq 40 (.iface t (aC q)) .nilIface).run Tryz.prog w=.ok (.bool true) w:=by kernel_rfl
theorem KA(s:aq)(D:s.size<=281474976710656)(n:Cx B w)(A:B<=w.heap.size):au 34 #[ag s] w λe w'=>e=.returned (Qm (vN s))/\ap w w':=by
 have j:=av (J9 s D n);have k:Hid (∀a,-9223372036854775808<=a->a<=9223372036854775807->∀i,ap w i->au 22 #[ae a] i λe w'=>e=.returned (ag ⟨(Lib.itoa a).toArray⟩)/\ap i w'):=λa r u i C=>jS a r u B i (n.1.on (C.mono A));have l:=Pa;obtain⟨h,c⟩:∃h,vN s=h:=⟨_,rfl⟩;rw[c];clear n;go_enter func34,ntmps34;go_wp2_with fail;refine j.out.mono ?_;unfold vN at c;rintro e F (⟨a,g,rfl,f⟩|⟨g,a,t,E,rfl,f⟩)
 ·rw[g]at c;have HB:=av f;by_cases p:0<=a/\a<=99
  ·have r:¬a<0:=by omega
   have u:¬99<a:=by omega
   have m:=av (k.out a (by omega) (by omega) F f);obtain⟨d,o⟩:∃d:aq,⟨(Lib.itoa a).toArray⟩=d:=⟨_,rfl⟩;rw[o]at m;have x:Hid (h=if d=s then some a else none):=by
    have e:Lib.itoa a=s.data.toList ↔ d=s:=by
     rw[<-o];refine⟨λb=>by rw[b],λb=>by rw[<-b]⟩
    show h=_;rw[<-c];by_cases b:d=s
    ·rw[if_pos b];exact if_pos ⟨p,e.2 b⟩
    ·rw[if_neg b];exact if_neg λG=>b (e.1 G.2)
   clear f j k g c o p l;go_wp2_with fail;refine m.mono ?_;rintro e J ⟨rfl,y⟩;have v:=av (HB.trans (y.mono HB.size));clear y m HB;by_cases q:d=s
   ·subst q;obtain rfl:=x.out.trans (if_pos rfl);go_wp2_with fail
    go_ret2
    exact⟨rfl,v⟩
   ·obtain rfl:=x.out.trans (if_neg q);have H:(d.toList==s.toList)=false:=dK.2 λb=>q (by rw[kH b,<-kH (rfl:s.toList=s.toList)]);go_wp2_with fail
    go_ret2
    exact⟨rfl,v⟩
  ·obtain rfl:none=h:=(if_neg λb=>p b.1).symm.trans c;clear c k j l g f;by_cases r:a<0
   ·go_wp2_with fail
    go_ret2
    exact⟨rfl,HB⟩
   ·have u:99<a:=by omega
    go_wp2_with fail
    go_ret2
    exact⟨rfl,HB⟩
 ·obtain rfl:none=h:=by
    cases z:Lib.atoiAll s.data.toList with
    | ok a=>exact absurd z (g a)
    | _=>rw[z]at c;exact c
  have HB:=av f;have I:=l t E;clear c k j l g f;go_wp2_with fail
  go_ret2
  exact⟨rfl,HB⟩
theorem QN: Tryz.prog.globalNamed "internal/strconv.uint64pow10" = some 1 := by kernel_rfl
theorem KQ:(Tryz.prog.globals[1]?).map (·.type)=some 159:=by kernel_rfl
theorem Ki:Tryz.prog.cellsOf 159=20:=by kernel_rfl
theorem Kj:Tryz.prog.cellsOf 115=1:=by kernel_rfl
theorem M1:(Rows.laid_internal_strconv_uint64pow10:DataW Unit)=Lib.tabData .u64 Lib.pow10Tab:=by kernel_rfl
theorem Dq: "*" ++ "errors.errorString" = "*errors.errorString" := by decide
theorem Ps(u : TypeId)(h : Tryz.prog.typeName? 3 u = some "*errors.errorString"): u = 261 :=
 typeName_ptr_named (nm := "errors.errorString") (by rw [Dq]; kernel_rfl) (by kernel_rfl) (by decide) u (by rw [Dq]; exact h)
theorem qz{n : String}{text : List UInt8}{r : List (String × DataW Unit)}{W : World}(h : laidMet Tryz.prog ((n, .iface "*errors.errorString" (.ptr (.agg [.lit (.string text)]))) :: r) W)(hg : Tryz.prog.globalNamed n = some g)(ht : (Tryz.prog.globals[g]?).map (·.type) = some 40): ∃ v, W.cell? ⟨g, 0, none⟩ = some v ∧ Qy v := by
 obtain⟨f,h,d,_⟩:=laid_sentinel b a c underlying40 Ps underlying261 underlying263 rfl rfl underlying9 (by kernel_rfl) (by kernel_rfl);exact⟨_,World.var?_cell a d 0,am ⟨_,_,rfl⟩⟩
theorem Pt{W:ah}(hL:laidMetH Tryz.prog Rows.deskHeadRow.laid W)(hS:W.ShapedOpen Tryz.prog):Cx W.heap.size W:=by
 have h1 : laidMet Tryz.prog [("math/bits.deBruijn32tab", Rows.laid_math_bits_deBruijn32tab), ("math/bits.deBruijn64tab", Rows.laid_math_bits_deBruijn64tab), ("internal/strconv.uint64pow10", Rows.laid_internal_strconv_uint64pow10), ("unicode/utf8.acceptRanges", Rows.laid_unicode_utf8_acceptRanges), ("strconv.ErrRange", Rows.laid_strconv_ErrRange), ("strconv.ErrSyntax", Rows.laid_strconv_ErrSyntax), ("unicode/utf8.first", Rows.laid_unicode_utf8_first)] W := hL
 have h2:=laidMet.tail (laidMet.tail h1);rw[M1]at h2;have h3:=Lib.tabIs_of_head QN KQ underlying159 underlying115 Kj Ki h2;obtain⟨m,hm⟩:=cell_of_shapedOpen_int (g:=0) (t:=3) (zero:= #[ae 0]) (k:=.i64) hS (iv (by kernel_rfl)) (by kernel_rfl) (by kernel_rfl) (by kernel_rfl) (by kernel_rfl) underlying3;have h4:=laidMet.tail (laidMet.tail h2);obtain⟨e1,c1,k1⟩:=qz (g:=4) (laidMet.tail h4) (by kernel_rfl) (by kernel_rfl);obtain⟨e2,c2,k2⟩:=qz (g:=5) h4 (by kernel_rfl) (by kernel_rfl);exact⟨Lib.tabBelow_of_tabIs h3,m,e1,e2,⟨k1,k2⟩,λW2 hW=>⟨(hW.cell (p:=⟨0,0,none⟩) (lK _ _ hm)).trans hm,(hW.cell (p:=⟨4,0,none⟩) (lK _ _ c1)).trans c1,(hW.cell (p:=⟨5,0,none⟩) (lK _ _ c2)).trans c2⟩⟩
abbrev Nd:Type:=(Int×Int×aq)×(aw×Nat×Nat)
def wK(x:Nd):List ax:=[ae x.1.1,ae x.1.2.1,ag x.1.2.2,af x.2.1 x.2.2.1 x.2.2.2]
def cM(l:List Nd):List ax:=l.flatMap wK
def aF:(n:Nat)->Tm n->List Nd
 | 0,_=> [((0,0,.empty),(none,0,0))]
 | n+1,x=>(x.1,(x.2.1.1,x.2.2.length,x.2.1.2))::x.2.2.flatMap λy=>aF n y
def qx:(n:Nat)->Tm n->Int->List Int
 | 0,_,d=> [d]
 | n+1,x,d=>d::x.2.2.flatMap λy=>qx n y (d+1)
theorem Ca{c:Type}(f:d->List h)(g:d->List c)(b:∀a,(f a).length=(g a).length)(l:List d):(l.flatMap f).length=(l.flatMap g).length:=by
 induction l with
 | nil=>rfl
 | cons a l ih=>simp only[bK,bm,ih,b]
theorem kQ:(n:Nat)->(x:Tm n)->(d:Int)->(qx n x d).length=(aF n x).length
 | 0,_,_=>rfl
 | n+1,x,d=>by
  simp only[qx,aF,bt];rw[Ca (λy=>qx n y (d+1)) (λy=>aF n y) (λy=>kQ n y (d+1))]
theorem o9(l:List Nd):(cM l).length=l.length*4:=by
 induction l with
 | nil=>rfl
 | cons a l ih=>simp only[cM,bK,bm,bt]at ih ⊢;rw[ih];simp[wK];omega
theorem wL(l r:List Nd):cM (l++r)=cM l++cM r:=by simp[cM]
theorem uo(l:List Nd):∀b∈cM l,b.oneCell'=true:=by
 intro b a;simp only[cM,ko,wK]at a;obtain⟨c,_,a⟩:=a;simp at a;rcases a with rfl|rfl|rfl|rfl<;>rfl
theorem Jn(f:d->List h)(l:List d)(k:Nat)(x:d)(b:l[k]?=some x):(l.take (k+1)).flatMap f=(l.take k).flatMap f++f x:=by
 obtain⟨c,a⟩:=aZ.1 b;rw[lE c,a];simp
theorem GL(f:d->List h)(l:List d)(k:Nat):((l.take k).flatMap f).length<=(l.flatMap f).length:=by
 conv=>rhs;rw[<-iL k l]
 rw[lB,bm];omega
theorem NI(cs:Array ax)(b:base<=w.heap.size)(a:cs.size=size):(w.alloc (.cells cs e)).ownsRow base e size (af (some ⟨w.heap.size,0,none⟩) 1 1) 1 cs.toList:=
 ⟨by simp[a],.inr ⟨w.heap.size,1,cs,rfl,b,aI w _,ay _,by unfold maxLen;omega,by omega,by rw[bF];simp[a]⟩⟩
theorem dT(b:w.ownsRow base e size v n xs)(a:ap w w'):w'.ownsRow base e size v n xs:=
 b.kept (row:=none) ⟨a.os,a.tape,a.output,a.size,λk c _=>a.block k c⟩ (by cases v.ownBlock<;>simp)
theorem sE{b:Nat}(f:w.ownsRow base e size v n xs)(k:b<=base):w.ownsRow b e size v n xs:=by
 obtain⟨g,a⟩:=f;refine⟨g,?_⟩;rcases a with a|⟨d,cap,c,i,l,h,j⟩
 ·exact ak a
 ·exact am ⟨d,cap,c,i,by omega,h,j⟩
theorem gL:(Tryz.prog.info? 54).map (λi=>(i.zero,i.size,i.bytes))=some (some (.agg #[ae 0,ae 0,ag .empty,af none 0 0]),4,56):=by kernel_rfl
theorem Gp:(Tryz.prog.info? 3).map (λi=>(i.zero,i.size,i.bytes))=some (some (ae 0),1,8):=by kernel_rfl
def qW(n lo a:Int):Bool:=decide (lo<=n) && decide (n<=a)
def Au(c:UInt8):Bool:=decide (97<=(c.toNat:Int)) && decide ((c.toNat:Int)<=122)
def gC(l:List UInt8):Bool:=l.all Au
def eh(s:aq):Bool:=qW s.size 1 8 && gC s.data.toList
theorem bY{b:Bool}(c:a=b):Ending.returned (.bool a)=.returned (.bool b):=by rw[c]
theorem tN(s:aq)(k:Nat)(a:k<s.size):s.data.toList.take (k+1)=s.data.toList.take k++ [s[k]]:=by
 rw[lE (by simpa using a)];rfl
theorem wE(s:aq)(k:Nat)(a:k<s.size):gC (s.data.toList.take (k+1))=(gC (s.data.toList.take k) && Au s[k]):=by
 rw[tN s k a];simp[gC]
def sz:(n:Nat)->Tm n->Int
 | 0,_=>0
 | n+1,x=>if x.1.1=4 then 1+(x.2.2.map λy=>1+sz n y).sum else 0
theorem fH:(n:Nat)->(x:Tm n)->0<=sz n x/\sz n x+1<=2*((aF n x).length:Int)
 | 0,_=>⟨by simp[sz],by simp[sz,aF]⟩
 | n+1,x=>by
  have key:∀l:List (Tm n),0<=(l.map λy=>1+sz n y).sum/\(l.map λy=>1+sz n y).sum<=2*((l.flatMap λy=>aF n y).length:Int):=by
   intro l
   induction l with
   | nil=>exact⟨by simp,by simp⟩
   | cons y l ih=>
    have b:=fH n y;simp only[bz,di,bK,bm];exact⟨by omega,by omega⟩
  have k:=key x.2.2;simp only[sz,aF,bt];by_cases a:x.1.1=4
  ·rw[if_pos a];exact⟨by omega,by omega⟩
  ·rw[if_neg a];exact⟨by omega,by omega⟩
def cJ(x:Nd):Bool:=
 (if x.1.1=1 then x.1.2.2.toList.isEmpty && qW x.1.2.1 (-1099511627776) 1099511627776
  else if x.1.1=2 then eh x.1.2.2 && x.1.2.1==0
  else if x.1.1=3 then x.1.2.2.toList.isEmpty && qW x.1.2.1 1 99
  else if x.1.1=4 then x.1.2.2.toList.isEmpty && x.1.2.1==0 && decide ((x.2.2.1:Int)<=8)
  else if x.1.1=5 then x.1.2.2.toList.isEmpty && qW x.1.2.1 0 3
  else if x.1.1=6 then x.1.2.2.toList.isEmpty && x.1.2.1==0
  else false) && (x.1.1==4 || !decide ((0:Int)<(x.2.2.1:Int)))
def mG(x:Nd)(d m:Int):Int:=if x.1.1=4/\m<d+1 then d+1 else m
def uE(a:Int):List Nd->List Int->Int->Int
 | x::l,d::ds,m=>if cJ x then uE a l ds (mG x d m)else 5
 | _,_,m=>if 12<m\/200<a then 2 else 0
def bJ(n:Nat)(x:Tm n):Int:=uE (sz n x) (aF n x) (qx n x 0) 0
theorem ji(l:List Nd)(k:Nat)(x:Nd)(b:l[k]?=some x)(j:Nat)(e:j<4):(cM l)[k*4+j]?=(wK x)[j]? :=by
 induction l generalizing k with
 | nil=>simp at b
 | cons a l ih=>
  have c:cM (a::l)=wK a++cM l:=rfl;have d:(wK a).length=4:=rfl;rw[c];cases k with
  | zero=>
   have:a=x:=by simpa using b
   subst this;rw[dM (by omega)];simp
  | succ k=>
   rw[fp (by omega),d,<-ih k (by simpa using b)];congr 1;omega
theorem fD(g j:Nat):(⟨g,0,none⟩:Addr).add j=⟨g,j,none⟩:=by unfold Addr.add;split<;>simp_all
theorem EZ{l:List Nd}(d:w.ownsRow base 54 4 (af (some ⟨g,0,none⟩) L c) L (cM l))(k:Nat)(x:Nd)(b:l[k]?=some x):ai w g (k*4) (ae x.1.1)/\ai w g (k*4+1) (ae x.1.2.1)/\ai w g (k*4+2) (ag x.1.2.2)/\ai w g (k*4+3) (af x.2.1 x.2.2.1 x.2.2.2):=by
 have a:=d.cells (g:=g) rfl;refine⟨?_,?_,?_,?_⟩
 ·have:=a (k*4+0) (ae x.1.1) (by rw[ji l k x b 0 (by omega)];rfl);rw[fD]at this;exact this
 ·have:=a (k*4+1) (ae x.1.2.1) (by rw[ji l k x b 1 (by omega)];rfl);rw[fD]at this;exact this
 ·have:=a (k*4+2) (ag x.1.2.2) (by rw[ji l k x b 2 (by omega)];rfl);rw[fD]at this;exact this
 ·have:=a (k*4+3) (af x.2.1 x.2.2.1 x.2.2.2) (by rw[ji l k x b 3 (by omega)];rfl);rw[fD]at this;exact this
theorem Hi(x:Nd){d m:Int}(a:¬(x.1.1=4/\m<d+1)):mG x d m=m:=if_neg a
theorem yd(e:Int):(l:List Nd)->(a:List Int)->(m:Int)->l.length=a.length->uE e l a m=0->∀y∈l,cJ y=true
 | [],_,_,_,_=>by simp
 | x::l,[],_,h,_=>by simp at h
 | x::l,d::a,m,h,h0=>by
  simp only[uE]at h0;by_cases b:cJ x=true
  ·rw[if_pos b]at h0;intro y c;rcases co.1 c with rfl|c
   ·exact b
   ·exact yd e l a _ (by simpa using h) h0 y c
  ·rw[if_neg b]at h0;cases h0
theorem mU(n:Nat)(x:Tm n)(a:bJ n x=0):∀y∈aF n x,cJ y=true:=
 yd _ _ _ _ (kQ n x 0).symm a
theorem ns{x:Tm (n+1)}{y:Tm n}(b:y∈x.2.2){a:Nd}(c:a∈aF n y):a∈aF (n+1) x:=by
 simp only[aF,co,ko];exact am ⟨y,b,c⟩
theorem lf(x:Nd)(a:cJ x=true):x.1.1=1\/x.1.1=2\/x.1.1=3\/x.1.1=4\/x.1.1=5\/(x.1.1=6/\x.1.2.1=0):=by
 by_cases b:x.1.1=1
 ·exact ak b
 by_cases c:x.1.1=2
 ·exact am (ak c)
 by_cases d:x.1.1=3
 ·exact am (am (ak d))
 by_cases e:x.1.1=4
 ·exact am (am (am (ak e)))
 by_cases f:x.1.1=5
 ·exact am (am (am (am (ak f))))
 by_cases g:x.1.1=6
 ·refine am (am (am (am (am ⟨g,?_⟩))));unfold cJ at a;rw[if_neg b,if_neg c,if_neg d,if_neg e,if_neg f,if_pos g]at a;simp only[aO,cR]at a;exact a.1.2
 ·unfold cJ at a;rw[if_neg b,if_neg c,if_neg d,if_neg e,if_neg f,if_neg g]at a;cases a
def aL{c d:Type}(f:c->d->Bool):List c->List d->Bool
 | [],[]=>true
 | a::p,b::q=>f a b && aL f p q
 | _,_=>false
def aH:(n:Nat)->Tm n->(m:Nat)->Tm m->Bool
 | n+1,x,m+1,y=>x.1.1==y.1.1 && x.1.2.1==y.1.2.1 && x.1.2.2.toList==y.1.2.2.toList && aL (λa b=>aH n a m b) x.2.2 y.2.2
 | _,_,_,_=>false
theorem f9{b:Bool}(c:a=b):Ending.returned (.bool a)=.returned (.bool b):=by rw[c]
theorem C8{c d:Type}(f:c->d->Bool):(p:List c)->(q:List d)->¬p.length=q.length->aL f p q=false
 | [],[],h=>by simp at h
 | [],_::_,_=>rfl
 | _::_,[],_=>rfl
 | a::p,b::q,h=>by
  simp only[aL];rw[C8 f p q (by simpa using h)];simp
theorem vG(x y:Int):(x<y/\oT x y=-1)\/(x=y/\oT x y=0)\/(y<x/\oT x y=1):=by
 unfold oT;by_cases a:x<y
 ·rw[if_pos a];exact ak ⟨a,rfl⟩
 ·rw[if_neg a];by_cases b:y<x
  ·rw[if_pos b];exact am (am ⟨b,rfl⟩)
  ·rw[if_neg b];exact am (ak ⟨by omega,rfl⟩)
theorem Kc:(x y:List UInt8)->Op.bytesLess x y=false->Op.bytesLess y x=false->x=y
 | [],[],_,_=>rfl
 | [],_::_,h,_=>by simp[Op.bytesLess]at h
 | _::_,[],_,h=>by simp[Op.bytesLess]at h
 | a::x,b::y,h,h'=>by
  simp only[Op.bytesLess,Bool.or_eq_false_iff,decide_eq_false_iff_not,Bool.and_eq_false_iff,dK]at h h';obtain⟨c,d⟩:=h;obtain⟨f,g⟩:=h';have e:a=b:=by
   rw[UInt8.lt_iff_toNat_lt]at c f;exact UInt8.toNat_inj.1 (by omega)
  subst e;rw[Kc x y (d.resolve_left (λn=>n rfl)) (g.resolve_left (λn=>n rfl))]
theorem xZ(l:List UInt8):Op.bytesLess l l=false:=by
 induction l with
 | nil=>rfl
 | cons a l ih=>simp[Op.bytesLess,ih]
theorem Ko(x y:aq):(Op.bytesLess x.toList y.toList=true/\xA x y=-1)\/(x.toList=y.toList/\xA x y=0)\/(Op.bytesLess y.toList x.toList=true/\xA x y=1):=by
 unfold xA;cases h:Op.bytesLess x.toList y.toList
 ·by_cases a:x.toList=y.toList
  ·rw[a];simp
  ·have c:Op.bytesLess y.toList x.toList=true:=by
     cases h2:Op.bytesLess y.toList x.toList
     ·exact(a (Kc _ _ h h2)).elim
     ·rfl
   have b:(x.toList==y.toList)=false:=by simpa using a
   rw[b];simp[c]
 ·simp
theorem dF{x:Tm 0}(c:∀a∈aF 0 x,cJ a=true):False:=by
 have:=c ((0,0,.empty),(none,0,0)) (by simp[aF]);rcases lf _ this with b|b|b|b|b|⟨b,_⟩<;>simp at b
theorem yM{h i:Type}(f:h->i->Int)(g:h->i->Bool):(p:List h)->(q:List i)->p.length=q.length->(∀a∈p,∀b∈q,(f a b=0 ↔ g a b=true))->(qr f p q=0 ↔ aL g p q=true)
 | [],[],_,_=>by simp[qr,aL]
 | [],_::_,e,_=>by simp at e
 | _::_,[],e,_=>by simp at e
 | a::p,b::q,e,H=>by
  have j:=H a (by simp) b (by simp);have m:=yM f g p q (by simpa using e) (λk n l o=>H k (by simp[n]) l (by simp[o]));simp only[qr,aL,aO];by_cases d:f a b=0
  ·rw[if_pos d,m];exact⟨λc=>⟨j.1 d,c⟩,λc=>c.2⟩
  ·rw[if_neg d];exact⟨λc=>(d c).elim,λc=>(d (j.2 c.1)).elim⟩
theorem eW(x:Nd)(b:cJ x=true):(x.1.1≠2->x.1.2.2.toList=[])/\(x.1.1=2->x.1.2.1=0)/\(x.1.1=4->x.1.2.1=0)/\(x.1.1=6->x.1.2.1=0)/\(x.1.1≠4->x.2.2.1=0):=by
 have c:=lf x b;unfold cJ at b;rcases c with a|a|a|a|a|⟨a,d⟩
 all_goals (rw[a]at b ⊢;simp at b ⊢;simp[b])
theorem CQ:(n:Nat)->(x:Tm n)->(m:Nat)->(y:Tm m)->(∀a∈aF n x,cJ a=true)->(∀a∈aF m y,cJ a=true)->(yK n x m y=0 ↔ aH n x m y=true)
 | 0,_,_,_,f,_=>(dF f).elim
 | _+1,_,0,_,_,f=>(dF f).elim
 | n+1,x,m+1,y,hx,hy=>by
  have l:=eW _ (hx (x.1,(x.2.1.1,x.2.2.length,x.2.1.2)) (by simp[aF]));have j:=eW _ (hy (y.1,(y.2.1.1,y.2.2.length,y.2.1.2)) (by simp[aF]));have B:=lf _ (hx (x.1,(x.2.1.1,x.2.2.length,x.2.1.2)) (by simp[aF]));have H:=λe=>yM (λa b=>yK n a m b) (λa b=>aH n a m b) x.2.2 y.2.2 e (λa F b G=>CQ n a m b (λd v=>hx d (ns F v)) (λd v=>hy d (ns G v)));simp only at l j B;simp only[yK,aH];have E:=Ko x.1.2.2 y.1.2.2;have L:=vG x.1.2.1 y.1.2.1;have M:=vG x.1.1 y.1.1;have N:=vG x.2.2.length y.2.2.length;obtain⟨⟨k,C,s⟩,⟨a,c⟩,p⟩:=x;obtain⟨⟨A,w,I⟩,⟨J,K⟩,q⟩:=y;simp only at*;clear hx hy;by_cases e:k=A
  ·subst e;rw[if_pos rfl];have o:k≠4->p=[]/\q=[]:=λf=>⟨bZ (l.2.2.2.2 f),bZ (j.2.2.2.2 f)⟩;have r:k≠2->s.toList=[]/\I.toList=[]:=λf=>⟨l.1 f,j.1 f⟩;rcases B with g|g|g|g|g|⟨g,D⟩
   ·subst g;obtain⟨rfl,rfl⟩:=o (by decide);obtain⟨h,i⟩:=r (by decide);rw[if_pos (by decide),h,i];simp[aL];omega
   ·subst g;obtain⟨rfl,rfl⟩:=o (by decide);have z:C=0:=l.2.1 rfl;have t:w=0:=j.2.1 rfl;subst z t;rw[if_neg (by decide),if_pos rfl];simp[aL];rcases E with⟨f,u⟩|⟨f,u⟩|⟨f,u⟩
    ·refine⟨λe=>by omega,λe=>?_⟩;rw[e,xZ]at f;cases f
    ·exact⟨λ_=>f,λ_=>u⟩
    ·refine⟨λe=>by omega,λe=>?_⟩;rw[e,xZ]at f;cases f
   ·subst g;obtain⟨rfl,rfl⟩:=o (by decide);obtain⟨h,i⟩:=r (by decide);rw[if_pos (by decide),h,i];simp[aL];omega
   ·subst g;obtain⟨h,i⟩:=r (by decide);have z:C=0:=l.2.2.1 rfl;have t:w=0:=j.2.2.1 rfl;subst z t;rw[if_neg (by decide),if_neg (by decide),if_pos rfl,h,i];by_cases el:p.length=q.length
    ·rw[if_pos el,H el];simp
    ·rw[if_neg el,C8 _ _ _ el];simp;omega
   ·subst g;obtain⟨rfl,rfl⟩:=o (by decide);obtain⟨h,i⟩:=r (by decide);rw[if_pos (by decide),h,i];simp[aL];omega
   ·subst g;obtain⟨rfl,rfl⟩:=o (by decide);obtain⟨h,i⟩:=r (by decide);have t:w=0:=j.2.2.2.1 rfl;subst D t;rw[if_neg (by decide),if_neg (by decide),if_neg (by decide),h,i];simp[aL]
  ·rw[if_neg e];have:(k==A)=false:=by simpa using e
   rw[this];simp;omega
abbrev An:=(n:Nat)×Tm n
def cg:An->Int
 | ⟨0,_⟩=>0
 | ⟨_+1,x⟩=>x.1.1
def eH(x y:An):Bool:=aH x.1 x.2 y.1 y.2
def GV(B:Nat)(w:ah)(x:An):Prop:=In B w x.1 x.2
def aJ(x:An):Prop:=∀a∈aF x.1 x.2,cJ a=true
def jP{a c S:Type}(f:a->c->S->Option S):List a->List c->S->Option S
 | x::p,y::q,b=>(f x y b).bind (jP f p q)
 | _,_,b=>some b
def vU(b:List An)(i:Nat)(t:An):Option (List An):=
 match b[i]? with
 | some a=>if cg a=6 then some (b.set i t)else if eH a t then some b else none
 | none=>none
def ja:(n:Nat)->Tm n->(m:Nat)->Tm m->List An->Option (List An)
 | n+1,p,m+1,t,b=>
  if p.1.1=6 then some b
  else if p.1.1=5 then vU b p.1.2.1.toNat ⟨m+1,t⟩
  else if p.1.1=4 then
   if t.1.1=4/\p.2.2.length=t.2.2.length then jP (λx y b=>ja n x m y b) p.2.2 t.2.2 b else none
  else if aH (n+1) p (m+1) t then some b else none
 | _,_,_,_,_=>none
def QM(x y:An)(b:List An):Option (List An):=ja x.1 x.2 y.1 y.2 b
def lP:List (An×An)->List An->Option (List An)
 | [],b=>some b
 | (x,y)::r,b=>(QM x y b).bind (lP r)
def kI(n m:Nat)(p:List (Tm n))(q:List (Tm m)):List (An×An):=List.zipWith (λx y=>(⟨n,x⟩,⟨m,y⟩)) p q
def vn(P:An->Prop):Prop:=∀(n:Nat)(x:Tm (n+1))(y:Tm n),P ⟨n+1,x⟩->y∈x.2.2->P ⟨n,y⟩
theorem yq{a e S:Type}(f:a->e->S->Option S)(Q:S->Prop):(p:List a)->(q:List e)->(∀x∈p,∀y∈q,∀b c,Q b->f x y b=some c->Q c)->∀b c,Q b->jP f p q b=some c->Q c
 | [],_,_,b,c,hb,h=>by simp[jP]at h;rw[<-h];exact hb
 | _::_,[],_,b,c,hb,h=>by simp[jP]at h;rw[<-h];exact hb
 | x::p,y::q,hf,b,c,hb,h=>by
  simp only[jP]at h;obtain⟨d,g,i⟩:=cr.1 h;exact yq f Q p q (λx' j l k=>hf x' (b8 _ j) l (b8 _ k)) d c (hf x (by simp) y (by simp) b d hb g) i
theorem Hz(P:An->Prop)(b c:List An)(i:Nat)(t:An)(f:P t)(d:b.length=4/\∀y∈b,P y)(a:vU b i t=some c):c.length=4/\∀y∈c,P y:=by
 unfold vU at a;split at a
 ·split at a
  ·obtain rfl:=aG a;refine⟨by simpa using d.1,λy g=>?_⟩;rcases tX g with e|rfl
   ·exact d.2 y e
   ·exact f
  ·split at a
   ·obtain rfl:=aG a;exact d
   ·cases a
 ·cases a
theorem lO(P:An->Prop)(d:vn P):(n:Nat)->(p:Tm n)->(m:Nat)->(t:Tm m)->P ⟨m,t⟩->∀b c,(b.length=4/\∀y∈b,P y)->ja n p m t b=some c->(c.length=4/\∀y∈c,P y)
 | 0,_,_,_,_,_,_,_,h=>by simp[ja]at h
 | n+1,_,0,_,_,_,_,_,h=>by simp[ja]at h
 | n+1,p,m+1,t,ht,b,c,a,h=>by
  simp only[ja]at h;split at h
  ·obtain rfl:=aG h;exact a
  split at h
  ·exact Hz P b c _ _ ht a h
  split at h
  ·split at h
   ·exact yq _ _ p.2.2 t.2.2 (λx g y f b c a e=>lO P d n x m y (d m t y ht f) b c a e) b c a h
   ·cases h
  ·split at h
   ·obtain rfl:=aG h;exact a
   ·cases h
theorem Hy{S:Type}(f:d->h->S->Option S)(p:List d)(q:List h)(k:Nat)(x:d)(y:h)(i:p[k]?=some x)(j:q[k]?=some y)(b:S):jP f (p.drop k) (q.drop k) b=(f x y b).bind (jP f (p.drop (k+1)) (q.drop (k+1))):=by
 obtain⟨e,a⟩:=aZ.1 i;obtain⟨g,c⟩:=aZ.1 j;rw[fo e,fo g,a,c];rfl
theorem LA(B:Nat)(w:ah):vn (GV B w):=by
 intro n h i d c;rcases d.2 with a|⟨b,o,j,k,a⟩
 ·have e:h.2.2=[]:=a;rw[e]at c;cases c
 ·obtain⟨g,f⟩:=dh c;exact(a g i f).2
theorem br:vn aJ:=λ_ _ _ b d a c=>b a (ns d c)
theorem IZ{P Q:An->Prop}(c:vn P)(d:vn Q):vn λx=>P x/\Q x:=λn x y a b=>⟨c n x y a.1 b,d n x y a.2 b⟩
theorem uj(s:aq)(w:ah)(l:s.size<=9223372036854775807):au 113 #[ag s] w λe w'=>e=.returned (.bool (gC s.data.toList))/\w'=w:=by
 go_enter func113,ntmps113;go_wp2_with fail
 go_loop [3] (λb=>∃k:Nat,k<=s.size/\b=ae k/\Hid (gC (s.data.toList.take k)=true)) (λb=>s.size-(intOf b).toNat)
 case atStart=>exact⟨0,aK _,rfl,by simp[Hid,gC]⟩
 case round=>
  obtain⟨k,j,rfl,f⟩:=hrel;by_cases i:k<s.size
  ·have c:=av (wE s k i);have d:Hid (Au s[k]=false->false=gC s.data.toList):=λg=>by
    have a:gC s.data.toList=(gC (s.data.toList.take (k+1)) && gC (s.data.toList.drop (k+1))):=by
     conv=>lhs;rw[<-iL (k+1) s.data.toList]
     simp only[gC,lu]
    rw[a,c.out,g];simp
   by_cases h:97<=(s[k].toNat:Int)
   ·by_cases a:(s[k].toNat:Int)<=122
    ·go_wp2_with fail
     go_round
     case rel=>exact⟨k+1,by omega,by go_num,by simp only[Hid];rw[c.out,f.out];simp[Au,h,a]⟩
     case measure=>simp[intOf];omega
    ·go_wp2_with fail
     go_ret
     exact⟨bY (d (by simp[Au,a])),rfl⟩
   ·go_wp2_with fail
    go_ret
    exact⟨bY (d (by simp[Au];omega)),rfl⟩
  ·go_wp2_with fail
   go_ret
   exact⟨bY (by rw[<-f.out,bF (by simp;omega)]),rfl⟩
theorem jd(s:aq)(w:ah)(d:s.size<=9223372036854775807):au 115 #[ag s] w λe w'=>e=.returned (.bool (eh s))/\w'=w:=by
 by_cases b:(1:Int)<=s.size
 ·by_cases c:(s.size:Int)<=8
  ·have a:Hid (eh s=gC s.data.toList):=by simp only[Hid,eh,qW];simp[b,c]
   go_enter func115,ntmps115;go_wp2_with (go_at_call 113;refine(uj _ _ d).mono ?_;rintro e w' ⟨rfl,rfl⟩)
   all_goals go_ret
   all_goals exact⟨bY (by rw[a.out]),rfl⟩
  ·have a:Hid (eh s=false):=by simp only[Hid,eh,qW];simp[c]
   go_enter func115,ntmps115;go_wp2_with fail
   go_ret
   exact⟨bY (by rw[a.out]),rfl⟩
 ·have a:Hid (eh s=false):=by simp only[Hid,eh,qW];simp[b]
  go_enter func115,ntmps115;go_wp2_with fail
  go_ret
  exact⟨bY (by rw[a.out]),rfl⟩
def bP(n:Nat)(x:Tm (n+1)):Nd:=(x.1,(x.2.1.1,x.2.2.length,x.2.1.2))
def cu:(n:Nat)->Tm n->Bool
 | 0,_=>false
 | n+1,x=>cJ (bP n x) && (!(x.1.1==4) || x.2.2.all λy=>cu n y)
def Oi(n:Nat):Prop:=∀(x:Tm n)(B:Nat)(w:ah),In B w n x->B<=w.heap.size->
 au 77 #[dE n x] w λe w'=>e=.returned (.bool (cu n x))/\ap w w'
theorem kS(w:ah)(k b:Int)(s:aq)(a:aw)(l c:Nat)(d:k=1\/k=3\/k=5\/k=6):au 77 #[.agg #[ae k,ae b,ag s,af a l c]] w λe w'=>e=.returned (.bool (cJ ((k,b,s),(a,l,c))))/\ap w w':=by
 rcases d with rfl|rfl|rfl|rfl
 all_goals
  go_enter func77,ntmps77;go_wp2
  all_goals go_ret
  all_goals refine⟨bY ?_,by go_grown⟩
  all_goals go_light
  all_goals first|(simp[cJ,qW, *];done)|(simp[cJ,qW, *];omega)
theorem Cf(w:ah)(b:Int)(s:aq)(a:aw)(l c:Nat)(d:s.size<=9223372036854775807):au 77 #[.agg #[ae 2,ae b,ag s,af a l c]] w λe w'=>e=.returned (.bool (cJ ((2,b,s),(a,l,c))))/\ap w w':=by
 go_enter func77,ntmps77;go_wp2_with (go_at_call 115;refine(jd _ _ d).mono ?_;rintro e w' ⟨rfl,rfl⟩)
 all_goals go_ret
 all_goals refine⟨bY ?_,by go_grown⟩
 all_goals go_light
 all_goals first|(simp[cJ, *];done)|(simp[cJ, *];omega)
theorem Cg(w:ah)(k j:Int)(s:aq)(a:aw)(l c:Nat)(b:¬k=1)(d:¬k=2)(f:¬k=3)(g:¬k=4)(h:¬k=5)(i:¬k=6):au 77 #[.agg #[ae k,ae j,ag s,af a l c]] w λe w'=>e=.returned (.bool (cJ ((k,j,s),(a,l,c))))/\ap w w':=by
 have m:cJ ((k,j,s),(a,l,c))=false:=by simp[cJ,b,d,f,g,h,i]
 rw[m];have n:(k==1)=false:=by simpa using b
 have o:(k==2)=false:=by simpa using d
 have p:(k==3)=false:=by simpa using f
 have q:(k==4)=false:=by simpa using g
 have r:(k==5)=false:=by simpa using h
 have t:(k==6)=false:=by simpa using i
 clear b d f g h i m;go_enter func77,ntmps77;go_wp2_with fail
 go_ret
 exact⟨rfl,by go_grown⟩
theorem Br(n:Nat)(ih:Oi n)(p:List (Tm n))(len:Nat)(z:Hid (p.length=len))(a:aw)(pc B:Nat)(w:ah)(g:Hid (p=[]\/∃b o,a=some ⟨b,o,none⟩/\b<B/\∀(i:Nat)(y:Tm n),p[i]?=some y->ee w b (o+i*4) n y/\In B w n y))(K:len<=9223372036854775807)(r:B<=w.heap.size):au 116 #[af a len pc] w λe w'=>e=.returned (.bool (decide ((len:Int)<=8) && p.all λy=>cu n y))/\ap w w':=by
 by_cases G:(8:Int)<len
 ·have j:decide ((len:Int)<=8)=false:=by simp;omega
  rw[j];go_enter func116,ntmps116;go_wp2_with fail
  go_ret
  exact⟨rfl,aE _ _⟩
 have j:decide ((len:Int)<=8)=true:=by simp;omega
 rw[j,eS];clear j;go_enter func116,ntmps116;go_wp2_with fail;go_loopw [10] (λi wr=>∃k:Nat,k<=len/\i=ae k/\ap w wr/\Hid (((p.drop k).all λy=>cu n y)=p.all λy=>cu n y)) (λi _=>len-(intOf i).toNat)
 case atStart=>exact⟨0,by omega,rfl,aE _ _,rfl⟩
 case round=>
  obtain⟨k,H,rfl,d,s⟩:=hrel;by_cases D:k<len
  ·obtain⟨c,l⟩:∃c,p[k]?=some c:=⟨p[k]'(by rw[z.out];exact D),aS _⟩;have t:Hid (((p.drop k).all λy=>cu n y)=(cu n c && (p.drop (k+1)).all λy=>cu n y)):=by
    obtain⟨h,C⟩:=aZ.1 l;rw[fo h,C];rfl
   rcases g.out with g|⟨L,po,rfl,E,g⟩
   ·subst g;simp at l
   obtain⟨m,q⟩:=g k c l;replace m:=m.below (d.mono r) E;replace q:=q.below (d.mono r);clear g l;cases n with
   | zero=>exact m.elim
   | succ n=>
   obtain⟨M,N,O,P⟩:=m;have u:B<=wr.heap.size:=aD r d.size
   have A:Hid (∀f,ap wr f->au 77 #[.agg (bf c)] f λe w'=>e=.returned (.bool (cu (n+1) c))/\ap f w'):=
    λf h=>ih c B f (q.below (h.mono u)) (aD u h.size)
   clear ih q;generalize c.2.2.length=Q at*;generalize cu (n+1) c=F at*;have I:(0:Int)<=(k:Int):=by omega
   have J:(k:Int)<(len:Int):=by omega
   go_wp2_with fail;refine(A _ (aT _ _)).mono ?_;rintro e f ⟨rfl,v⟩;have x:ap w f:=(d.trans ((aT _ _).mono d.size)).trans (v.mono (by have:=d.size;simp;omega));clear v;cases F with
   | true=>
    go_wp2_with fail;go_roundw
    case rel=>exact⟨k+1,by omega,by go_num,x,by rw[<-s.out,t.out];rfl⟩
    case measure=>simp[intOf];omega
   | false=>
    go_wp2_with fail
    go_ret
    exact⟨bY (by rw[<-s.out,t.out];rfl),x⟩
  ·go_wp2_with fail
   go_ret
   refine⟨bY ?_,d⟩;rw[<-s.out,kj (by rw[z.out];omega)];rfl
theorem Ev(w:ah)(b:Int)(s:aq)(a:aw)(l c:Nat)(r:Bool)(H:Hid (∀w1:ah,ap w w1->au 116 #[af a l c] w1 λe w'=>e=.returned (.bool (decide ((l:Int)<=8) && r))/\ap w1 w')):au 77 #[.agg #[ae 4,ae b,ag s,af a l c]] w λe w'=>e=.returned (.bool (cJ ((4,b,s),(a,l,c)) && r))/\ap w w':=by
 have f:cJ ((4,b,s),(a,l,c))=(s.toList.isEmpty && b==0 && decide ((l:Int)<=8)):=by simp[cJ]
 rw[f];generalize decide ((l:Int)<=8)=h at*;clear f;cases h1:b==0
 ·go_enter func77,ntmps77;go_wp2_with fail
  go_ret
  exact⟨bY (by simp),by go_grown⟩
 cases h2:s.toList.isEmpty
 ·go_enter func77,ntmps77;go_wp2_with fail
  go_ret
  exact⟨bY (by simp),by go_grown⟩
 go_enter func77,ntmps77;go_wp2_with fail;refine(H _ (aT _ _)).mono ?_;rintro e w1 ⟨rfl,d⟩;have g:ap w w1:=(aT _ _).trans (d.mono (by simp));clear d;go_wp2_with fail
 all_goals go_ret
 all_goals exact⟨bY (by simp),g⟩
theorem Eu(n:Nat):Oi n:=by
 induction n with
 | zero=>intro B q c l;exact l.elim
 | succ n ih=>
  intro B q c l i;obtain⟨⟨k,e,d⟩,⟨a,pc⟩,p⟩:=B;obtain⟨⟨_,_,t,D,s⟩,f⟩:=l;simp only at t D s f;unfold maxLen at s t;show au 77 #[.agg #[ae k,ae e,ag d,af a p.length pc]] c λh E=>h=.returned (.bool (cJ ((k,e,d),(a,p.length,pc)) && (!(k==4) || p.all λg=>cu n g)))/\ap c E;by_cases m:k=4
  ·subst m;refine Ev c e d a p.length pc _ (λF j=>Br n ih p p.length rfl a pc q F ?_ (by omega) (aD i j.size));rcases f with f|⟨b,o,h,r,f⟩
   ·exact ak f
   ·exact am ⟨b,o,h,r,λv g u=>⟨(f v g u).1.below (j.mono i) r,(f v g u).2.below (j.mono i)⟩⟩
  ·have C:(!(k==4) || p.all λg=>cu n g)=true:=by simp[m]
   rw[C,Bool.and_true];by_cases w:k=1
   ·exact kS c k e d a p.length pc (ak w)
   by_cases x:k=2
   ·subst x;exact Cf c e d a p.length pc (by omega)
   by_cases y:k=3
   ·exact kS c k e d a p.length pc (am (ak y))
   by_cases z:k=5
   ·exact kS c k e d a p.length pc (am (am (ak z)))
   by_cases A:k=6
   ·exact kS c k e d a p.length pc (am (am (am A)))
   ·exact Cg c k e d a p.length pc w x y m z A
def cE(P:aU):(n:Nat)->Tm n->Prop
 | 0,_=>False
 | n+1,x=>x.2.2=[]\/∃b o,x.2.1.1=some ⟨b,o,none⟩/\P b/\∀(i:Nat)(y:Tm n),x.2.2[i]?=some y->cE P n y
theorem cE.mono{P Q:aU}(a:∀b,P b->Q b):{n:Nat}->{x:Tm n}->cE P n x->cE Q n x
 | 0,_,k=>k
 | _+1,_,k=>by
  rcases k with k|⟨b,o,e,c,k⟩
  ·exact ak k
  ·exact am ⟨b,o,e,a b c,λi y d=>(k i y d).mono a⟩
theorem bL{b:Nat}(a:w'.heap[b]?=w.heap[b]?)(o:Nat):w'.cell? ⟨b,o,none⟩=w.cell? ⟨b,o,none⟩:=by
 simp[World.cell?,a]
theorem ee.block{w w':ah}{b o:Nat}(a:w'.heap[b]?=w.heap[b]?):{n:Nat}->{x:Tm n}->ee w b o n x->ee w' b o n x
 | 0,_,k=>k
 | _+1,_,k=>by
  obtain⟨c,d,e,f⟩:=k;exact⟨(bL a _).trans c,(bL a _).trans d,(bL a _).trans e,(bL a _).trans f⟩
theorem In.off{P:aU}{w w':ah}(f:∀b,P b->w'.heap[b]?=w.heap[b]?){B:Nat}:{n:Nat}->{x:Tm n}->cE P n x->In B w n x->In B w' n x
 | 0,_,_,k=>k
 | _+1,_,p,k=>by
  obtain⟨m,a⟩:=k;refine⟨m,?_⟩;rcases a with a|⟨b,o,e,j,a⟩
  ·exact ak a
  ·rcases p with p|⟨q,r,c,l,p⟩
   ·exact ak p
   ·rw[e]at c;injection c with c;injection c with g h;subst g h;exact am ⟨b,o,e,j,λi y d=>⟨(a i y d).1.block (f b l),(a i y d).2.off f (p i y d)⟩⟩
theorem In.offB{P:aU}{B:Nat}{w:ah}:{n:Nat}->{x:Tm n}->cE P n x->In B w n x->cE (λb=>P b/\b<B) n x
 | 0,_,p,_=>p
 | _+1,_,p,k=>by
  obtain⟨_,a⟩:=k;rcases p with p|⟨b,o,e,h,p⟩
  ·exact ak p
  ·rcases a with a|⟨l,m,c,j,a⟩
   ·exact ak a
   ·rw[e]at c;injection c with c;injection c with f g;subst f g;exact am ⟨b,o,e,⟨h,j⟩,λi y d=>In.offB (p i y d) (a i y d).2⟩
def gK:(n:Nat)->Tm n->Nd
 | 0,_=>((0,0,⟨#[]⟩),(none,0,0))
 | n+1,x=>bP n x
theorem Ni{l:List (Tm (n+1))}(a:w.ownsRow base 54 4 (af (some ⟨g,0,none⟩) L c) L (cM (l.map (gK (n+1)))))(k:Nat)(x:Tm (n+1))(d:l[k]?=some x):ee w g (0+k*4) (n+1) x:=by
 have b:=EZ a k (gK (n+1) x) (by simp[d]);rw[cw];exact b
def rS(base:Nat)(n:Nat)(l:List (Tm n))(v:ax)(w:ah):Prop:=
 w.ownsRow base 54 4 v l.length (cM (l.map (gK n)))/\∀a∈l,In w.heap.size w n a/\cE (λb=>base<=b/\v.ownBlock≠some b) n a
theorem rS.tup{l:List (Tm (n+1))}(m:rS base (n+1) l v w):∃a c,v=af a l.length c/\cE (λb=>base<=b) (n+2) ((4,0,⟨#[]⟩),(a,c),l)/\In w.heap.size w (n+2) ((4,0,⟨#[]⟩),(a,c),l):=by
 obtain⟨i,j⟩:=m;have d:dm 4/\dm 0/\(⟨#[]⟩:aq).size<=maxLen:=⟨⟨by omega,by omega⟩,⟨by omega,by omega⟩,aK _⟩;have e:=i;obtain⟨y,e⟩:=e;rcases e with⟨e,o⟩|⟨f,cap,x,rfl,r,s,q,u,A,z⟩
 ·have:l=[]:=bZ o;subst this;refine⟨none,0,by rw[e];rfl,ak rfl,⟨d.1,d.2.1,d.2.2,aK _,aK _⟩,ak rfl⟩
 ·have t:f<w.heap.size:=(aN.1 s).1;refine⟨some ⟨f,0,none⟩,cap,rfl,am ⟨f,0,rfl,r,λk h g=>((j h (aR g)).2).mono λb p=>p.1⟩,⟨d.1,d.2.1,d.2.2,q,u⟩,am ⟨f,0,rfl,t,λk h g=>⟨Ni i k h g,(j h (aR g)).1⟩⟩⟩
def um(a:An):Nd:=gK a.1 a.2
def gn(l:List An):List ax:=cM (l.map um)
theorem lN(l:List An):(gn l).length=l.length*4:=by simp[gn,o9]
theorem Bp(l:List An):∀a∈gn l,a.oneCell'=true:=uo _
def nR(base:Nat)(g c:Nat)(b:List An)(w:ah):Prop:=w.ownsRow base 54 4 (af (some ⟨g,0,none⟩) b.length c) b.length (gn b)
variable{b:List An}
theorem nR.cells(a:nR base g c b w)(i:Nat)(y:An)(d:b[i]?=some y):ai w g (i*4) (ae (um y).1.1)/\ai w g (i*4+1) (ae (um y).1.2.1)/\ai w g (i*4+2) (ag (um y).1.2.2)/\ai w g (i*4+3) (.slice (um y).2.1 (um y).2.2.1 (um y).2.2.2):=
 EZ (l:=b.map um) a i (um y) (by simp[d])
theorem nR.lt{base g c:Nat}{b:List An}{w:ah}(a:nR base g c b w):base<=g/\g<w.heap.size:=World.ownsRow.lt a g rfl
theorem nR.kept{base g c:Nat}{b:List An}{w w':ah}(d:nR base g c b w){row:da}(e:w.grownBy w' row)(f:row≠some g):nR base g c b w':=
 qm d e (am λa=>f a.symm)
theorem dk(a:ap w w')(row:da):w.grownBy w' row:=⟨a.os,a.tape,a.output,a.size,λk b _=>a.block k b⟩
theorem nR.below(a:nR base g c b w)(d:ap w w'):nR base g c b w':=a.kept (dk d none) (by simp)
theorem oY(a:w.grownBy w' (some g))(b:B<=g)(c:g<w.heap.size):Below B w w':=⟨a.os,a.tape,a.output,a.size,λk d=>a.block k (by omega) (by simp;omega)⟩
theorem mw{row:da}(a:w.grownBy w1 row)(k:w1.grownBy w2 row):w.grownBy w2 row:=
 ⟨k.os.trans a.os,k.tape.trans a.tape,k.output.trans a.output,aD a.size k.size,λb c d=>(k.block b (aY c a.size) d).trans (a.block b c d)⟩
theorem nR.free(e:nR base g c b w)(j:Nat):w.frozen? ⟨g,j,none⟩=false:=by
 obtain⟨n,d⟩:=e;rcases d with⟨d,_⟩|⟨m,cap,i,h,q,f,o,r,s,p⟩
 ·simp at d
 ·injection h with a k l;injection a with a;injection a with a _;subst a;simp[World.frozen?,f]
def dj(w:ah)(g o:Nat)(v0 v1 v2 v3:ax):ah:=(((w.setCell ⟨g,o,none⟩ v0).setCell ⟨g,o+1,none⟩ v1).setCell ⟨g,o+2,none⟩ v2).setCell ⟨g,o+3,none⟩ v3
def jW(w:ah)(g o:Nat)(x:Nd):ah:=dj w g o (ae x.1.1) (ae x.1.2.1) (ag x.1.2.2) (af x.2.1 x.2.2.1 x.2.2.2)
theorem jN(i:w.ownsRow base e size (af (some ⟨g,0,none⟩) L c) L xs)(j:Nat)(d:ax):(w.setCell ⟨g,j,none⟩ d).ownsRow base e size (af (some ⟨g,0,none⟩) L c) L (xs.set j d):=by
 obtain⟨k,b⟩:=i;refine⟨by simpa using k,?_⟩;rcases b with⟨b,_⟩|⟨t,cap,f,q,n,o,l,p,r,m⟩
 ·simp at b
 ·injection q with a s h;injection a with a;injection a with a _;subst a h;refine am ⟨g,c,f.setIfInBounds j d,rfl,n,?_,l,p,by simpa using r,?_⟩
  ·simp[World.setCell,bQ,o]
  ·rw[<-m];simp[List.take_set]
theorem uq:(l:List Nd)->(i:Nat)->(x:Nd)->i<l.length-> ((((cM l).set (i*4) (ae x.1.1)).set (i*4+1) (ae x.1.2.1)).set (i*4+2) (ag x.1.2.2)).set (i*4+3) (af x.2.1 x.2.2.1 x.2.2.2)=cM (l.set i x)
 | [],i,x,h=>by simp at h
 | y::l,0,x,_=>by simp[cM,wK]
 | y::l,i+1,x,h=>by
  have ih:=uq l i x (by simpa using h);have e:cM (y::l)=wK y++cM l:=rfl;have b:cM ((y::l).set (i+1) x)=wK y++cM (l.set i x):=rfl;have a:(wK y).length=4:=rfl;rw[e,b,<-ih];rw[iK _ _ (by rw[a];omega),iK _ _ (by rw[a];omega),iK _ _ (by rw[a];omega),iK _ _ (by rw[a];omega),a];rw[show (i+1)*4-4=i*4 by omega,show (i+1)*4+1-4=i*4+1 by omega,show (i+1)*4+2-4=i*4+2 by omega,show (i+1)*4+3-4=i*4+3 by omega]
theorem nR.put(d:nR base g c b w)(i:Nat)(t:An)(e:i<b.length):nR base g c (b.set i t) (jW w g (i*4) (um t)):=by
 have a:=jN (jN (jN (jN d (i*4) (ae (um t).1.1)) (i*4+1) (ae (um t).1.2.1)) (i*4+2) (ag (um t).1.2.2)) (i*4+3) (.slice (um t).2.1 (um t).2.2.1 (um t).2.2.2);unfold gn at a;rw[uq (b.map um) i (um t) (by simpa using e)]at a;unfold nR gn;rw[List.map_set,lC];exact a
theorem bv{b:Nat}(c:b≠g)(v0 v1 v2 v3:ax):(dj w g o v0 v1 v2 v3).heap[b]?=w.heap[b]? :=by
 have d:g≠b:=λa=>c a.symm;simp[dj,World.setCell,bQ,d]
theorem bI(v0 v1 v2 v3:ax):(dj w g o v0 v1 v2 v3).heap.size=w.heap.size:=by simp[dj,World.setCell]
theorem Fc(v0 v1 v2 v3:ax):w.grownBy (dj w g o v0 v1 v2 v3) (some g):=
 ⟨rfl,rfl,rfl,cQ (bI _ _ _ _).symm,λk _ b=>bv (λa=>b (by rw[a])) _ _ _ _⟩
theorem F4(c:Below (w.alloc (.cells #[v0,v1,v2,v3] t)).heap.size (w.alloc (.cells #[v0,v1,v2,v3] t)) w'):(ai w' w.heap.size 0 v0/\ai w' w.heap.size 1 v1/\ai w' w.heap.size 2 v2/\ai w' w.heap.size 3 v3)/\ (w'.frozen? ⟨w.heap.size,0,none⟩=false/\w'.frozen? ⟨w.heap.size,1,none⟩=false/\w'.frozen? ⟨w.heap.size,2,none⟩=false/\w'.frozen? ⟨w.heap.size,3,none⟩=false):=by
 have a:=λo=>c.cell (p:=⟨w.heap.size,o,none⟩) (by simp);have b:=λo=>c.frozen (p:=⟨w.heap.size,o,none⟩) (by simp);exact⟨⟨(a 0).trans (by simp[go_sem]),(a 1).trans (by simp[go_sem]),(a 2).trans (by simp[go_sem]),(a 3).trans (by simp[go_sem])⟩,(b 0).trans (by simp[go_sem]),(b 1).trans (by simp[go_sem]),(b 2).trans (by simp[go_sem]),(b 3).trans (by simp[go_sem])⟩
theorem oS(b:q<w1.heap.size)(h:ap w1 w2)(k:ai w1 q 0 f/\ai w1 q 1 i/\ai w1 q 2 j/\ai w1 q 3 l):ai w2 q 0 f/\ai w2 q 1 i/\ai w2 q 2 j/\ai w2 q 3 l:=by
 obtain⟨c,d,e,g⟩:=k;have a:=az h;exact⟨(a _ _ b).trans c,(a _ _ b).trans d,(a _ _ b).trans e,(a _ _ b).trans g⟩
def fe(base g c:Nat)(o:Option (List An))(w:ah)(e:Ending)(w':ah):Prop:=
 e=.returned (.bool o.isSome)/\w.grownBy w' (some g)/\∀b,o=some b->nR base g c b w'
def DN(B:Nat)(w:ah)(b:List An):Prop:=b.length=4/\∀y∈b,GV B w y/\aJ y
theorem GV.below{B:Nat}{w w':ah}(a:Below B w w'){x:An}(k:GV B w x):GV B w' x:=In.below a k
theorem DN.below{B:Nat}{w w':ah}(c:Below B w w'){b:List An}(k:DN B w b):DN B w' b:=⟨k.1,λy a=>⟨(k.2 y a).1.below c,(k.2 y a).2⟩⟩
theorem DN.fit{a:List An}(k:DN B w b){p:Tm n}{t:Tm m}(f:In B w m t)(e:aJ ⟨m,t⟩)(d:ja n p m t b=some a):DN B w a:=
 lO (λc=>GV B w c/\aJ c) (IZ (LA B w) br) n p m t ⟨f,e⟩ b a k d
def OG(n:Nat):Prop:=∀(p:Tm n)(m:Nat)(t:Tm m)(b:List An)(base g c B:Nat)(w:ah),In B w n p->In B w m t->aJ ⟨n,p⟩->aJ ⟨m,t⟩->DN B w b->B<=base->nR base g c b w->
 au 227 #[af (some ⟨g,0,none⟩) 4 c,dE n p,dE m t] w (fe base g c (ja n p m t b) w)
theorem vF(x y:Int)(w:ah):au 242 #[ae x,ae y] w λe w'=>e=.returned (ae (oT x y))/\w'=w:=by
 go_enter func242,ntmps242;go_wp2
 all_goals go_ret
 all_goals refine⟨jH ?_,rfl⟩
 all_goals unfold oT
 all_goals (repeat' split)<;>omega
theorem Kn(x y:aq)(w:ah):au 243 #[ag x,ag y] w λe w'=>e=.returned (ae (xA x y))/\w'=w:=by
 go_enter func243,ntmps243;go_wp2
 all_goals go_ret
 all_goals refine⟨jH ?_,rfl⟩
 all_goals unfold xA
 all_goals simp[*]
attribute [local go_sem ↓] Go.wp_at_zero Go.wp_at_succ
def F5(n:Nat):Prop:=∀(x:Tm n)(m:Nat)(y:Tm m)(B:Nat)(w:ah),In B w n x->In B w m y->B<=w.heap.size->
 au 237 #[dE n x,dE m y] w λe w'=>e=.returned (ae (yK n x m y))/\ap w w'
theorem MM(p q:Nat)(a c:aw)(pc d:Nat)(w:ah)(_hpc:p<=9223372036854775807)(_hqc:q<=9223372036854775807)(b:((p:Int)==(q:Int))=false):au 244 #[af a p pc,af c q d] w λe w'=>e=.returned (ae (oT p q))/\w'=w:=by
 have f:((p:Int) !=(q:Int))=true:=by simpa using b
 go_enter func244,ntmps244;go_wp2_with (go_at_call 242;refine(vF _ _ _).mono ?_;rintro e w' ⟨rfl,rfl⟩)
 go_ret
 exact⟨rfl,rfl⟩
theorem ML(n m:Nat)(ih:F5 n)(p:List (Tm n))(q:List (Tm m))(len:Nat)(M:Hid (p.length=len))(V:Hid (q.length=len))(g po h l pc X:Nat)(B:Nat)(w:ah)(ai:len<=9223372036854775807)(T:g<B)(U:h<B)(L:∀(i:Nat)(y:Tm n),p[i]?=some y->ee w g (po+i*4) n y/\In B w n y)(N:∀(i:Nat)(y:Tm m),q[i]?=some y->ee w h (l+i*4) m y/\In B w m y)(o:B<=w.heap.size):au 244 #[af (some ⟨g,po,none⟩) len pc,af (some ⟨h,l,none⟩) len X] w λe w'=> e=.returned (ae (qr (λa b=>yK n a m b) p q))/\ap w w':=by
 go_enter func244,ntmps244;go_wp2_with fail;go_loopw [19] (λi wr=>∃k:Nat,k<=len/\i=ae k/\ap w wr/\Hid (qr (λa b=>yK n a m b) (p.drop k) (q.drop k)=qr (λa b=>yK n a m b) p q)) (λi _=>len-(intOf i).toNat)
 case atStart=>exact⟨0,by omega,rfl,aE _ _,rfl⟩
 case round=>
  obtain⟨k,aa,rfl,f,z⟩:=hrel;by_cases K:k<len
  ·obtain⟨c,A⟩:∃c,p[k]?=some c:=⟨p[k]'(by rw[M.out];exact K),aS _⟩;obtain⟨y,C⟩:∃y,q[k]?=some y:=⟨q[k]'(by rw[V.out];exact K),aS _⟩;obtain⟨s,t⟩:=L k c A;obtain⟨u,v⟩:=N k y C;have E:Hid (qr (λa b=>yK n a m b) (p.drop k) (q.drop k)=if yK n c m y=0 then qr (λa b=>yK n a m b) (p.drop (k+1)) (q.drop (k+1))else yK n c m y):=IU (λa b=>yK n a m b) p q k c y A C;replace s:=s.below (f.mono o) T;replace u:=u.below (f.mono o) U;replace t:=t.below (f.mono o);replace v:=v.below (f.mono o);clear L N A C;cases n with
   | zero=>exact s.elim
   | succ n=>
   cases m with
   | zero=>exact u.elim
   | succ m=>
   obtain⟨al,am,an,ao⟩:=s;obtain⟨y0,y1,y2,aq⟩:=u;have J:∀(d:ah),In B d (n+1) c->In B d (m+1) y->B<=d.heap.size->au 237 #[.agg (bf c),.agg (bf y)] d λe w'=>e=.returned (ae (yK (n+1) c (m+1) y))/\ap d w':=λd P Q R=>ih c (m+1) y B d P Q R;have D:=av J;clear J ih;have F:=av t;have G:=av v;clear t v;generalize yK (n+1) c (m+1) y=r at*;generalize c.2.2.length=Y at*;generalize y.2.2.length=yl at*;have ab:(0:Int)<=(k:Int):=by omega
   have ad:(k:Int)<(len:Int):=by omega
   have S:B<=wr.heap.size:=aD o f.size;have O:=av (D wr.drew (F.below (aE _ _).drew) (G.below (aE _ _).drew) S);have aj:g<wr.heap.size:=by omega
   have ak:h<wr.heap.size:=by omega
   clear D F G;go_wp2_with fail
   go_region_held3 (λw'=>w'.cell? ⟨g,po+k*4,none⟩=some (ae c.1.1)/\w'.cell? ⟨g,po+k*4+1,none⟩=some (ae c.1.2.1)/\w'.cell? ⟨g,po+k*4+2,none⟩=some (ag c.1.2.2)/\w'.cell? ⟨g,po+k*4+3,none⟩=some (af c.2.1.1 Y c.2.1.2)
       /\w'.cell? ⟨h,l+k*4,none⟩=some (ae y.1.1)/\w'.cell? ⟨h,l+k*4+1,none⟩=some (ae y.1.2.1)/\w'.cell? ⟨h,l+k*4+2,none⟩=some (ag y.1.2.2)/\w'.cell? ⟨h,l+k*4+3,none⟩=some (af y.2.1.1 yl y.2.1.2))
    (go_keep) ((go_at_call 237;refine O.mono ?_;rintro e d ⟨rfl,H⟩;have Z:=az (dc H)))
   have I:ap w d:=f.trans ((dc H).mono f.size);by_cases j:r=0
   ·have x:Hid (r=0):=j;have W:(r !=0)=false:=by rw[j];rfl
    clear j;go_wp2_with fail;go_roundw
    case rel=>exact⟨k+1,by omega,by go_num,I,by rw[<-z.out,E.out,if_pos x.out];rfl⟩
    case measure=>simp[intOf];omega
   ·have x:Hid (¬r=0):=j;have W:(r !=0)=true:=by simpa using j
    clear j;go_wp2_with fail
    go_ret
    exact⟨jH (by rw[<-z.out,E.out,if_neg x.out]),I⟩
  ·go_wp2_with fail
   go_ret
   refine⟨jH ?_,f⟩;rw[<-z.out,kj (by rw[M.out];omega)];rfl
theorem Bv(n m:Nat)(a c:aw)(pc d:Nat)(w:ah):au 244 #[.slice a ([]:List (Tm n)).length pc,.slice c ([]:List (Tm m)).length d] w λe w'=>e=.returned (ae (qr (λa b=>yK n a m b) [] []))/\ap w w':=by
 show au 244 #[af a 0 pc,af c 0 d] w λe w'=>e=.returned (ae 0)/\ap w w';go_enter func244,ntmps244;go_wp2_with fail
 go_loop [19] (λf=>f=ae 0) (λ_=>0)
 case atStart=>rfl
 case round=>
  obtain rfl:=hrel;go_wp2_with fail
  go_ret
  exact⟨rfl,aE _ _⟩
theorem EY(w:ah)(k b h i:Int)(s g:aq)(a c:aw)(pl f pc d:Nat)(e:¬k=b):au 237 #[.agg #[ae k,ae h,ag s,af a pl pc],.agg #[ae b,ae i,ag g,af c f d]] w λe w'=>e=.returned (ae (oT k b))/\ap w w':=by
 have j:(k !=b)=true:=by simpa using e
 clear e;go_enter func237,ntmps237;go_wp2_with (go_at_call 242;refine(vF _ _ _).mono ?_;rintro e w' ⟨rfl,rfl⟩)
 go_ret
 exact⟨rfl,(aT _ _).alloc (by simp) _⟩
theorem tD(w:ah)(k d f:Int)(s c:aq)(a g:aw)(pl i pc h:Nat)(r:Int)(b:k=1\/k=3\/k=5):au 237 #[.agg #[ae k,ae d,ag s,af a pl pc],.agg #[ae k,ae f,ag c,af g i h]] w λe w'=>e=.returned (ae (if k=1\/k=3\/k=5 then oT d f else if k=2 then xA s c else if k=4 then r else 0))/\ap w w':=by
 rw[if_pos b];rcases b with rfl|rfl|rfl
 all_goals
  go_enter func237,ntmps237;go_wp2_with (go_at_call 242;refine(vF _ _ _).mono ?_;rintro e w' ⟨rfl,rfl⟩)
  go_ret
  exact⟨rfl,(aT _ _).alloc (by simp) _⟩
theorem IW(w:ah)(g h:Int)(s b:aq)(a c:aw)(pl f pc d:Nat):au 237 #[.agg #[ae 2,ae g,ag s,af a pl pc],.agg #[ae 2,ae h,ag b,af c f d]] w λe w'=>e=.returned (ae (xA s b))/\ap w w':=by
 go_enter func237,ntmps237;go_wp2_with (go_at_call 243;refine(Kn _ _ _).mono ?_;rintro e w' ⟨rfl,rfl⟩)
 go_ret
 exact⟨rfl,(aT _ _).alloc (by simp) _⟩
theorem EX(w:ah)(k m n:Int)(s l:aq)(a h:aw)(pl j pc i:Nat)(b:¬k=1)(c:¬k=2)(d:¬k=3)(f:¬k=4)(g:¬k=5):au 237 #[.agg #[ae k,ae m,ag s,af a pl pc],.agg #[ae k,ae n,ag l,af h j i]] w λe w'=>e=.returned (ae 0)/\ap w w':=by
 have o:(k==1)=false:=by simpa using b
 have p:(k==2)=false:=by simpa using c
 have q:(k==3)=false:=by simpa using d
 have r:(k==4)=false:=by simpa using f
 have t:(k==5)=false:=by simpa using g
 clear b c d f g;go_enter func237,ntmps237;go_wp2_with fail
 go_ret
 exact⟨rfl,(aT _ _).alloc (by simp) _⟩
theorem IX(w:ah)(j k:Int)(s i:aq)(a b:aw)(pl f pc d:Nat)(r:Int)(c:∀w1:ah,ap w w1->au 244 #[af a pl pc,af b f d] w1 λe w'=>e=.returned (ae r)/\ap w1 w'):au 237 #[.agg #[ae 4,ae j,ag s,af a pl pc],.agg #[ae 4,ae k,ag i,af b f d]] w λe w'=>e=.returned (ae r)/\ap w w':=by
 have g:=av c;clear c;go_enter func237,ntmps237;go_wp2_with fail;refine(g _ ((aT _ _).alloc (by simp) _)).mono ?_;rintro e w' ⟨rfl,h⟩;go_wp2_with fail
 go_ret
 exact⟨rfl,((aT _ _).alloc (by simp) _).trans (h.mono (by simp;omega))⟩
theorem IV(n:Nat):F5 n:=by
 induction n with
 | zero=>intro U h t H g G;exact G.elim
 | succ n ih=>
  intro U h t H g G r w;cases h with
  | zero=>exact r.elim
  | succ h=>
  obtain⟨⟨k,l,i⟩,⟨a,pc⟩,c⟩:=U;obtain⟨⟨z,m,j⟩,⟨f,e⟩,d⟩:=t;obtain⟨⟨M,Y,S,P,E⟩,p⟩:=G;obtain⟨⟨N,Z,T,R,F⟩,q⟩:=r;simp only at M Y S P E p N Z T R F q
  show au 237 #[.agg #[ae k,ae l,ag i,af a c.length pc],.agg #[ae z,ae m,ag j,af f d.length e]] g λo B=>o=.returned (ae (if k=z then
   if k=1\/k=3\/k=5 then oT l m else if k=2 then xA i j else if k=4 then if c.length=d.length then qr (λa b=>yK n a h b) c d else oT c.length d.length
   else 0 else oT k z))/\ap g B
  have V:∀s:ah,ap g s->au 244 #[af a c.length pc,af f d.length e] s λo B=>o=.returned (ae (if c.length=d.length then qr (λa b=>yK n a h b) c d else oT c.length d.length))/\ap s B:=by
   intro s x;unfold maxLen at E F;by_cases u:c.length=d.length
   ·rw[if_pos u];rcases p with p|⟨aa,po,rfl,O,p⟩
    ·subst p;have X:d=[]:=bZ u.symm;subst X;exact Bv n h a f pc e s
    ·rcases q with q|⟨ab,ad,rfl,Q,q⟩
     ·subst q;have W:c=[]:=bZ u;subst W;exact Bv n h _ f pc e s
     ·have L:=ML n h ih c d c.length rfl u.symm aa po ab ad pc e H s (by omega) O Q (λy t r=>⟨(p y t r).1.below (x.mono w) O,(p y t r).2.below (x.mono w)⟩)
        (λy t r=>⟨(q y t r).1.below (x.mono w) Q,(q y t r).2.below (x.mono w)⟩) (aD w x.size)
      rw[u]at L;rw[u];exact L
   ·rw[if_neg u];refine(MM c.length d.length a f pc e s (by omega) (by omega) (by simp;omega)).mono ?_;rintro o B ⟨rfl,rfl⟩;exact⟨rfl,aE _ _⟩
  generalize (if c.length=d.length then qr (λa b=>yK n a h b) c d else oT c.length d.length)=A at*;clear p q ih P E R F S T w;generalize c.length=pl at*;generalize d.length=v at*;obtain⟨ai,al⟩:=M;obtain⟨aj,an⟩:=N;by_cases o:k=z
  ·subst o;rw[if_pos rfl];by_cases I:k=1
   ·subst I;exact tD g 1 l m i j a f pl v pc e A (ak rfl)
   by_cases J:k=3
   ·subst J;exact tD g 3 l m i j a f pl v pc e A (am (ak rfl))
   by_cases K:k=5
   ·subst K;exact tD g 5 l m i j a f pl v pc e A (am (am rfl))
   rw[if_neg (by omega)];by_cases C:k=2
   ·subst C;exact IW g l m i j a f pl v pc e
   rw[if_neg C];by_cases D:k=4
   ·subst D;exact IX g l m i j a f pl v pc e A V
   rw[if_neg D];exact EX g k l m i j a f pl v pc e I C J D K
  ·rw[if_neg o];exact EY g k z l m i j a f pl v pc e o
theorem jR(k b:Int)(s:aq)(a:aw)(l c:Nat)(w:ah):au 234 #[.agg #[ae k,ae b,ag s,af a l c]] w λe w'=>e=.returned (.bool (!(k==6)))/\ap w w':=by
 cases h:k==6
 all_goals
  go_enter func234,ntmps234;go_wp2_with fail
  go_ret
  exact⟨f9 (by simp[bne,h]),aT _ _⟩
theorem CR(x:An)(y:An)(B:Nat)(w:ah)(d:GV B w x)(f:GV B w y)(b:B<=w.heap.size)(g:aJ x)(h:aJ y):au 237 #[dE x.1 x.2,dE y.1 y.2] w λe w'=>∃r,e=.returned (ae r)/\Hid ((r==0)=eH x y)/\ap w w':=by
 refine(IV x.1 x.2 y.1 y.2 B w d f b).mono ?_;rintro e w' ⟨rfl,c⟩;refine⟨_,rfl,?_,c⟩;have a:=CQ x.1 x.2 y.1 y.2 g h;unfold Hid eH;cases hs:aH x.1 x.2 y.1 y.2
 ·rw[hs]at a;simp only[pZ,iff_false]at a;simpa using a
 ·rw[hs]at a;simp only[iff_true]at a;simpa using a
theorem KP(b:List An)(base g c B:Nat)(w:ah)(k:Nat)(K:k<4)(m:Nat)(t:Tm (m+1))(y:DN B w b)(M:In B w (m+1) t)(L:aJ ⟨m+1,t⟩)(U:B<=base)(H:nR base g c b w):au 235 #[af (some ⟨g,0,none⟩) 4 c,ae k,.agg (bf t)] w (fe base g c (vU b k ⟨m+1,t⟩) w):=by
 obtain⟨a,v⟩:∃a,b[k]?=some a:=⟨b[k]'(by rw[y.1];exact K),aS _⟩;obtain⟨E,N⟩:=y.2 a (aR v);obtain⟨n,a⟩:=a;cases n with
 | zero=>exact E.elim
 | succ n=>
 have D:Hid (vU b k ⟨m+1,t⟩=if a.1.1=6 then some (b.set k ⟨m+1,t⟩)else if eH ⟨n+1,a⟩ ⟨m+1,t⟩then some b else none):=by simp only[Hid,vU,v,cg];rfl
 obtain⟨j,l,p,q⟩:=H.cells k _ v;simp only[um,gK,bP]at j l p q;have Z:(0:Int)<=(k:Int):=by omega
 have aa:(k:Int)<4:=by omega
 have A:=av H;have I:=av v;have R:g<w.heap.size:=H.lt.2;clear v H;generalize vU b k ⟨m+1,t⟩=o at*;cases h6:a.1.1==6
 case true=>
  go_enter func235,ntmps235;go_wp2_with fail;refine(jR _ _ _ _ _ _ _).mono ?_;rintro h e ⟨rfl,d⟩;have f:=av d;clear j l p q;have r:Hid (nR base g c b e):=(A.kept (dA w _ none) (by simp)).below d;have W:=λS=>r.free S;obtain⟨⟨t0,t1,t2,t3⟩,_⟩:=F4 d;obtain⟨j,l,p,q⟩:=r.out.cells k _ I;simp only[um,gK,bP]at j l p q;clear d;go_wp2_with fail
  go_ret
  have s:o=some (b.set k ⟨m+1,t⟩):=by rw[D.out,if_pos (by simpa using h6)]
  subst s;exact⟨rfl,mw (dk ((aT _ _).trans (f.mono (by simp))) _) (Fc _ _ _ _),λJ h=>by obtain rfl:=aG h;exact r.put k ⟨m+1,t⟩ (by rw[y.1];exact K)⟩
 case false=>
  go_enter func235,ntmps235;go_wp2_with fail;refine(jR _ _ _ _ _ _ _).mono ?_;rintro h e ⟨rfl,d⟩;clear j l p q;have f:Hid (ap w e):=(aT _ _).trans (d.mono (by simp));have r:Hid (nR base g c b e):=(A.kept (dA w _ none) (by simp)).below d;obtain⟨⟨t0,t1,t2,t3⟩,_⟩:=F4 d;obtain⟨j,l,p,q⟩:=r.out.cells k _ I;simp only[um,gK,bP]at j l p q;have z:Hid (B<=w.heap.size):=by have:=A.lt;unfold Hid;omega
  have P:Hid (w.heap.size<e.heap.size):=by have:=d.size;simp at this;unfold Hid;omega
  have F:Hid (GV B e ⟨n+1,a⟩/\GV B e ⟨m+1,t⟩):=⟨E.below (f.mono z),GV.below (x:=⟨m+1,t⟩) (f.mono z) M⟩;have Q:=av (CR ⟨n+1,a⟩ ⟨m+1,t⟩ B e.drew (F.1.below (aE _ _).drew) (F.2.below (aE _ _).drew) (aD z f.size) N L);clear d M E y N L;go_wp2_with fail
  go_region_held3 (λi=>i.cell? ⟨g,k*4,none⟩=some (ae a.1.1)/\i.cell? ⟨g,k*4+1,none⟩=some (ae a.1.2.1)/\i.cell? ⟨g,k*4+2,none⟩=some (ag a.1.2.2)/\i.cell? ⟨g,k*4+3,none⟩=some (af a.2.1.1 a.2.2.length a.2.1.2)
        /\i.cell? ⟨w.heap.size,0,none⟩=some (ae t.1.1)/\i.cell? ⟨w.heap.size,1,none⟩=some (ae t.1.2.1)/\i.cell? ⟨w.heap.size,2,none⟩=some (ag t.1.2.2)/\i.cell? ⟨w.heap.size,3,none⟩=some (af t.2.1.1 t.2.2.length t.2.1.2))
      (go_keep) ((go_at_call 237;refine Q.mono ?_;rintro h O ⟨T,rfl,G,u⟩;have V:=az (dc u);have X:g<e.heap.size:=aY R f.size;have Y:w.heap.size<e.heap.size:=P.out))
  replace u:=dc u;have C:Hid (w.grownBy O (some g)/\nR base g c b O):=⟨dk (f.trans (u.mono f.size)) _,r.below u⟩;have s:o=if eH ⟨n+1,a⟩ ⟨m+1,t⟩then some b else none:=by rw[D.out,if_neg (by simpa using h6)]
  rw[<-G.out]at s;clear G D;cases h0:T==0
  all_goals
   rw[h0]at s;go_wp2_with fail
   go_ret
   simp only[pZ,if_false,cB]at s;subst s
  ·exact⟨rfl,C.1,λJ h=>by cases h⟩
  ·exact⟨rfl,C.1,λJ h=>by obtain rfl:=aG h;exact C.2⟩
def LX(x:Nd):Bool:= !(x.1.1==5) && !(x.1.1==6)
def kP(n:Nat)(x:Tm n):Bool:=(aF n x).all LX
def aV:(n:Nat)->Tm n->Bool
 | 0,_=>true
 | n+1,x=> !(x.1.1==5) && !(x.1.1==6) && x.2.2.all λy=>aV n y
theorem fP:(n:Nat)->(x:Tm n)->aV n x=kP n x
 | 0,_=>by simp[aV,kP,aF,LX]
 | n+1,x=>by
  have key:∀l:List (Tm n),(l.all λy=>aV n y)=(l.flatMap λy=>aF n y).all LX:=by
   intro l
   induction l with
   | nil=>rfl
   | cons y l ih=>
    have:=fP n y;unfold kP at this;simp only[jv,bK,lu,ih,this]
  show (!(x.1.1==5) && !(x.1.1==6) && x.2.2.all λy=>aV n y)=(LX (x.1,(x.2.1.1,x.2.2.length,x.2.1.2)) && (x.2.2.flatMap λy=>aF n y).all LX);rw[key];rfl
def PK(n:Nat):Prop:=∀(x:Tm n)(B:Nat)(w:ah),In B w n x->B<=w.heap.size->
 au 132 #[dE n x] w λe w'=>e=.returned (.bool (aV n x))/\ap w w'
theorem BI(n:Nat)(ih:PK n)(h I:Int)(s:aq)(a:aw)(pc len:Nat)(p:List (Tm n))(C:Hid (p.length=len))(B:Nat)(w:ah)(g:Hid (p=[]\/∃b o,a=some ⟨b,o,none⟩/\b<B/\∀(i:Nat)(y:Tm n),p[i]?=some y->ee w b (o+i*4) n y/\In B w n y))(M:len<=9223372036854775807)(r:B<=w.heap.size):au 132 #[.agg #[ae h,ae I,ag s,af a len pc]] w λe w'=>e=.returned (.bool (!(h==5) && !(h==6) && p.all λy=>aV n y))/\ap w w':=by
 cases h5:h==5
 case true=>
  go_enter func132,ntmps132;go_wp2_with fail
  go_ret
  exact⟨bY (by simp),aT _ _⟩
 cases h6:h==6
 case true=>
  go_enter func132,ntmps132;go_wp2_with fail
  go_ret
  exact⟨bY (by simp),aT _ _⟩
 have v:(!false && !false && p.all λy=>aV n y)=p.all λy=>aV n y:=by simp
 rw[v];clear v;go_enter func132,ntmps132;go_wp2_with fail;go_loopw [16] (λi wr=>∃k:Nat,k<=len/\i=ae k/\ap w wr/\Hid (((p.drop k).all λy=>aV n y)=p.all λy=>aV n y)) (λi _=>len-(intOf i).toNat)
 case atStart=>exact⟨0,by omega,rfl,aT _ _,rfl⟩
 case round=>
  obtain⟨k,J,rfl,d,t⟩:=hrel;by_cases F:k<len
  ·obtain⟨c,l⟩:∃c,p[k]?=some c:=⟨p[k]'(by rw[C.out];exact F),aS _⟩;have u:Hid (((p.drop k).all λy=>aV n y)=(aV n c && (p.drop (k+1)).all λy=>aV n y)):=by
    obtain⟨j,E⟩:=aZ.1 l;rw[fo j,E];rfl
   rcases g.out with g|⟨N,po,rfl,G,g⟩
   ·subst g;simp at l
   obtain⟨m,q⟩:=g k c l;replace m:=m.below (d.mono r) G;replace q:=q.below (d.mono r);clear g l;cases n with
   | zero=>exact m.elim
   | succ n=>
   obtain⟨O,P,Q,R⟩:=m;have x:B<=wr.heap.size:=aD r d.size
   have D:Hid (∀f,ap wr f->au 132 #[.agg (bf c)] f λe w'=>e=.returned (.bool (aV (n+1) c))/\ap f w'):=
    λf j=>ih c B f (q.below (j.mono x)) (aD x j.size)
   clear ih q;generalize c.2.2.length=S at*;generalize aV (n+1) c=H at*;have K:(0:Int)<=(k:Int):=by omega
   have L:(k:Int)<(len:Int):=by omega
   go_wp2_with fail;refine(D _ (aT _ _)).mono ?_;rintro e f ⟨rfl,z⟩;have A:ap w f:=(d.trans ((aT _ _).mono d.size)).trans (z.mono (by have:=d.size;simp;omega));clear z;cases H with
   | true=>
    go_wp2_with fail;go_roundw
    case rel=>exact⟨k+1,by omega,by go_num,A,by rw[<-t.out,u.out];rfl⟩
    case measure=>simp[intOf];omega
   | false=>
    go_wp2_with fail
    go_ret
    exact⟨bY (by rw[<-t.out,u.out];rfl),A⟩
  ·go_wp2_with fail
   go_ret
   refine⟨bY ?_,d⟩;rw[<-t.out,kj (by rw[C.out];omega)];rfl
theorem iZ(n:Nat):PK n:=by
 induction n with
 | zero=>intro g b f a;exact a.elim
 | succ n ih=>
  intro g b f a i;obtain⟨⟨k,m,l⟩,⟨h,pc⟩,e⟩:=g;obtain⟨⟨_,_,_,j,d⟩,c⟩:=a;simp only at j d c;unfold maxLen at d;exact BI n ih k m l h pc e.length e rfl b f c (by omega) i
def gI:(n:Nat)->Tm n->Int
 | 0,_=>0
 | n+1,x=>if x.1.1=4 then 1+x.2.2.foldl (λm y=>max m (gI n y)) 0 else 0
def ub(n:Nat)(p:List (Tm n))(k:Nat):Int:=(p.take k).foldl (λm y=>max m (gI n y)) 0
theorem D8(n:Nat)(p:List (Tm n))(k:Nat)(x:Tm n)(b:p[k]?=some x):ub n p (k+1)=max (ub n p k) (gI n x):=by
 obtain⟨c,a⟩:=aZ.1 b;unfold ub;rw[lE c,a,nG];rfl
theorem qU{n:Nat}(N:Int):(l:List (Tm n))->(m:Int)->0<=m->m<=N->(∀y∈l,0<=gI n y/\gI n y<=N)->0<=l.foldl (λm y=>max m (gI n y)) m/\l.foldl (λm y=>max m (gI n y)) m<=N
 | [],_,h0,h1,_=>⟨h0,h1⟩
 | y::l,m,h0,h1,h=>by
  have c:=h y (by simp);exact qU N l (max m (gI n y)) (by omega) (by omega) (λb a=>h b (by simp[a]))
theorem kU(l:List (Tm n))(y:Tm n)(c:y∈l):(aF n y).length<=(l.flatMap λy=>aF n y).length:=by
 obtain⟨a,d⟩:=dh c;have b:=GL (λy=>aF n y) l (a+1);rw[Jn _ l a y d,bm]at b;omega
theorem ii:(n:Nat)->(x:Tm n)->0<=gI n x/\gI n x<=(aF n x).length
 | 0,_=>by simp[gI]
 | n+1,x=>by
  have e:=qU ((x.2.2.flatMap λy=>aF n y).length:Int) x.2.2 0 (by omega) (by omega) (λy b=>by
   have c:=ii n y;have d:=kU x.2.2 y b
   omega)
  simp only[gI,aF,bt];by_cases a:x.1.1=4
  ·rw[if_pos a];omega
  ·rw[if_neg a];omega
theorem BS(n:Nat)(p:List (Tm n))(k:Nat):0<=ub n p k/\ub n p k<=(p.flatMap λy=>aF n y).length:=
 qU _ (p.take k) 0 (by omega) (by omega) (λy a=>by
  have b:=ii n y;have c:=kU p y (List.mem_of_mem_take a)
  omega)
def PN(n:Nat):Prop:=∀(x:Tm n)(B:Nat)(w:ah),In B w n x->B<=w.heap.size->(aF n x).length<=2097152->
 au 78 #[dE n x] w λe w'=>e=.returned (ae (gI n x))/\ap w w'
theorem D9(b d:Int)(s:aq)(a:aw)(len pc:Nat)(w:ah)(c:¬b=4):au 78 #[.agg #[ae b,ae d,ag s,af a len pc]] w λe w'=>e=.returned (ae 0)/\ap w w':=by
 have f:(b !=4)=true:=by simpa using c
 clear c;go_enter func78,ntmps78;go_wp2_with fail
 go_ret
 exact⟨rfl,aT _ _⟩
theorem Hk(n:Nat)(ih:PN n)(P:Int)(s:aq)(a:aw)(pc len:Nat)(p:List (Tm n))(E:Hid (p.length=len))(B:Nat)(w:ah)(h:Hid (p=[]\/∃b o,a=some ⟨b,o,none⟩/\b<B/\∀(i:Nat)(y:Tm n),p[i]?=some y->ee w b (o+i*4) n y/\In B w n y))(T:len<=9223372036854775807)(u:B<=w.heap.size)(O:Hid (1+(p.flatMap λy=>aF n y).length<=2097152)):au 78 #[.agg #[ae 4,ae P,ag s,af a len pc]] w λe w'=> e=.returned (ae (1+p.foldl (λm y=>max m (gI n y)) 0))/\ap w w':=by
 go_enter func78,ntmps78;go_wp2_with fail;go_loopw [3,12] (λt i wr=>∃k:Nat,∃d:Int,k<=len/\i=ae k/\t=ae d/\Hid (d=ub n p k)/\ap w wr) (λ_ i _=>len-(intOf i).toNat)
 case atStart=>exact⟨0,0,by omega,rfl,rfl,by simp[Hid,ub],aT _ _⟩
 case round=>
  obtain⟨k,d,Q,rfl,rfl,v,f⟩:=hrel;have r:=BS n p k;rw[<-v.out]at r;have K:=O.out;have V:0<=d:=r.1;have W:d<=2097152:=by omega
  clear r;by_cases M:k<len
  ·obtain⟨c,j⟩:∃c,p[k]?=some c:=⟨p[k]'(by rw[E.out];exact M),aS _⟩;have I:=av (D8 n p k c j);have J:=kU p c (aR j);have F:(aF n c).length<=2097152:=by omega
   clear J K;rcases h.out with h|⟨U,po,rfl,N,h⟩
   ·subst h;simp at j
   obtain⟨l,q⟩:=h k c j;replace l:=l.below (f.mono u) N;replace q:=q.below (f.mono u);clear h j;cases n with
   | zero=>exact l.elim
   | succ n=>
   obtain⟨X,Y,Z,aa⟩:=l;have A:B<=wr.heap.size:=aD u f.size
   have G:Hid (∀g,ap wr g->au 78 #[.agg (bf c)] g λe w'=>e=.returned (ae (gI (n+1) c))/\ap g w'):=
    λg z=>ih c B g (q.below (z.mono A)) (aD A z.size) F
   clear ih q F;generalize c.2.2.length=ab at*;generalize gI (n+1) c=x at*;have R:(0:Int)<=(k:Int):=by omega
   have S:(k:Int)<(len:Int):=by omega
   go_wp2_with fail;refine(G _ (aT _ _)).mono ?_;rintro e g ⟨rfl,C⟩;have L:ap w g:=(f.trans ((aT _ _).mono f.size)).trans (C.mono (by have:=f.size;simp;omega));clear C;have D:max d x=if d<x then x else d:=by split<;>omega
   have H:=av D;clear D;go_wp2_with fail;go_roundw
   case rel=>exact⟨k+1,_,by omega,by go_num,rfl,by simp only[Hid];rw[I.out,<-v.out,H.out],L⟩
   case measure=>simp[intOf];omega
  ·go_wp2_with fail
   go_ret
   refine⟨jH ?_,f⟩;rw[v.out];unfold ub;rw[bF (by rw[E.out];omega)]
theorem Hj(n:Nat):PN n:=by
 induction n with
 | zero=>intro o i b g;exact g.elim
 | succ n ih=>
  intro o i b g q m;obtain⟨⟨k,e,d⟩,⟨c,pc⟩,a⟩:=o;obtain⟨⟨_,_,_,s,l⟩,j⟩:=g;simp only at s l j;unfold maxLen at l;have r:(aF (n+1) ((k,e,d),(c,pc),a)).length=1+(a.flatMap λh=>aF n h).length:=by simp only[aF,bt];omega
  rw[r]at m;show au 78 #[.agg #[ae k,ae e,ag d,af c a.length pc]] b λp u=>p=.returned (ae (if k=4 then 1+a.foldl (λt h=>max t (gI n h)) 0 else 0))/\ap b u;by_cases f:k=4
  ·subst f;exact Hk n ih e d c pc a.length a rfl i b j (by omega) q m
  ·rw[if_neg f];exact D9 k e d c a.length pc b f
def qC(n:Nat)(p:List (Tm n))(k:Nat):Int:=1+p.length+((p.take k).map λy=>sz n y).sum
theorem FH(n:Nat)(p:List (Tm n))(k:Nat)(x:Tm n)(b:p[k]?=some x):qC n p (k+1)=qC n p k+sz n x:=by
 obtain⟨c,a⟩:=aZ.1 b;unfold qC;rw[lE c,a];simp;omega
theorem Jm(n:Nat)(l:List (Tm n)):(l.map λy=>1+sz n y).sum=l.length+(l.map λy=>sz n y).sum:=by
 induction l with
 | nil=>simp
 | cons y l ih=>simp only[bz,di,bt,ih];omega
theorem Jx(n:Nat)(p:List (Tm n))(k:Nat)(a:p.length<=k):qC n p k=1+(p.map λy=>1+sz n y).sum:=by
 unfold qC;rw[bF a,Jm];omega
theorem yx(n:Nat)(p:List (Tm n)):p.length<=(p.flatMap λy=>aF n y).length:=by
 induction p with
 | nil=>simp
 | cons y l ih=>
  have:1<=(aF n y).length:=by cases n<;>simp[aF]
  simp only[bK,bm,bt];omega
theorem Dv(n:Nat)(p:List (Tm n))(k:Nat):0<=qC n p k/\qC n p k<=3*(1+(p.flatMap λy=>aF n y).length:Int):=by
 have b:=yx n p;have a:=GL (λy=>aF n y) p k;have key:∀l:List (Tm n),0<=(l.map λy=>sz n y).sum/\(l.map λy=>sz n y).sum<=2*((l.flatMap λy=>aF n y).length:Int):=by
  intro l
  induction l with
  | nil=>exact⟨by simp,by simp⟩
  | cons y l ih=>
   have c:=fH n y;simp only[bz,di,bK,bm];exact⟨by omega,by omega⟩
 have k:=key (p.take k);unfold qC;exact⟨by omega,by omega⟩
def QS(n:Nat):Prop:=∀(x:Tm n)(B:Nat)(w:ah),In B w n x->B<=w.heap.size->(aF n x).length<=2097152->
 au 79 #[dE n x] w λe w'=>e=.returned (ae (sz n x))/\ap w w'
theorem FG(b d:Int)(s:aq)(a:aw)(len pc:Nat)(w:ah)(c:¬b=4):au 79 #[.agg #[ae b,ae d,ag s,af a len pc]] w λe w'=>e=.returned (ae 0)/\ap w w':=by
 have f:(b !=4)=true:=by simpa using c
 clear c;go_enter func79,ntmps79;go_wp2_with fail
 go_ret
 exact⟨rfl,aT _ _⟩
theorem Jw(n:Nat)(ih:QS n)(M:Int)(s:aq)(a:aw)(pc len:Nat)(p:List (Tm n))(l:Hid (p.length=len))(B:Nat)(w:ah)(g:Hid (p=[]\/∃b o,a=some ⟨b,o,none⟩/\b<B/\∀(i:Nat)(y:Tm n),p[i]?=some y->ee w b (o+i*4) n y/\In B w n y))(v:B<=w.heap.size)(D:Hid (1+(p.flatMap λy=>aF n y).length<=2097152)):au 79 #[.agg #[ae 4,ae M,ag s,af a len pc]] w λe w'=> e=.returned (ae (1+(p.map λy=>1+sz n y).sum))/\ap w w':=by
 have S:len<=2097152:=by have u:=yx n p;have O:=D.out;rw[<-l.out];omega
 go_enter func79,ntmps79;go_wp2_with fail;go_loopw [3,16] (λt i wr=>∃k:Nat,∃h:Int,k<=len/\i=ae k/\t=ae h/\Hid (h=qC n p k)/\ap w wr) (λ_ i _=>len-(intOf i).toNat)
 case atStart=>exact⟨0,1+len,by omega,rfl,rfl,by simp only[Hid,qC];rw[l.out];simp,aT _ _⟩
 case round=>
  obtain⟨k,h,P,rfl,rfl,x,d⟩:=hrel;have r:=Dv n p k;rw[<-x.out]at r;have I:=D.out;have U:0<=h:=r.1;have V:h<=6291456:=by omega
  clear r;by_cases K:k<len
  ·obtain⟨c,j⟩:∃c,p[k]?=some c:=⟨p[k]'(by rw[l.out];exact K),aS _⟩;have G:=av (FH n p k c j);have H:=kU p c (aR j);have E:(aF n c).length<=2097152:=by omega
   have z:=fH n c;have ab:0<=sz n c:=z.1;have ad:sz n c<=4194304:=by omega
   clear H I z;rcases g.out with g|⟨T,po,rfl,L,g⟩
   ·subst g;simp at j
   obtain⟨m,q⟩:=g k c j;replace m:=m.below (d.mono v) L;replace q:=q.below (d.mono v);clear g j;cases n with
   | zero=>exact m.elim
   | succ n=>
   obtain⟨W,X,Y,Z⟩:=m;have A:B<=wr.heap.size:=aD v d.size
   have F:Hid (∀f,ap wr f->au 79 #[.agg (bf c)] f λe w'=>e=.returned (ae (sz (n+1) c))/\ap f w'):=
    λf u=>ih c B f (q.below (u.mono A)) (aD A u.size) E
   clear ih q E;generalize c.2.2.length=aa at*;generalize sz (n+1) c=N at*;have Q:(0:Int)<=(k:Int):=by omega
   have R:(k:Int)<(len:Int):=by omega
   go_wp2_with fail;refine(F _ (aT _ _)).mono ?_;rintro e f ⟨rfl,C⟩;have J:ap w f:=(d.trans ((aT _ _).mono d.size)).trans (C.mono (by have:=d.size;simp;omega));clear C;go_wp2_with fail;go_roundw
   case rel=>exact⟨k+1,h+N,by omega,by go_num,by go_num,by simp only[Hid];rw[G.out,<-x.out],J⟩
   case measure=>simp[intOf];omega
  ·go_wp2_with fail
   go_ret
   refine⟨jH ?_,d⟩;rw[x.out,Jx n p k (by rw[l.out];omega)]
theorem zu(n:Nat):QS n:=by
 induction n with
 | zero=>intro m i b g;exact g.elim
 | succ n ih=>
  intro m i b g p l;obtain⟨⟨k,e,d⟩,⟨c,pc⟩,a⟩:=m;obtain⟨⟨_,_,_,s,r⟩,j⟩:=g;simp only at s r j;have q:(aF (n+1) ((k,e,d),(c,pc),a)).length=1+(a.flatMap λh=>aF n h).length:=by simp only[aF,bt];omega
  rw[q]at l;show au 79 #[.agg #[ae k,ae e,ag d,af c a.length pc]] b λo t=>o=.returned (ae (if k=4 then 1+(a.map λh=>1+sz n h).sum else 0))/\ap b t;by_cases f:k=4
  ·subst f;exact Jw n ih e d c pc a.length a rfl i b j p l
  ·rw[if_neg f];exact FG k e d c a.length pc b f
theorem Ds(w:ah)(k g:Int)(s:aq)(a:aw)(l c:Nat)(j:Bool)(d n:Int)(D:Hid (∀w1,ap w w1->au 77 #[.agg #[ae k,ae g,ag s,af a l c]] w1 λe w'=>e=.returned (.bool j)/\ap w1 w'))(C:Hid (∀w1,ap w w1->au 78 #[.agg #[ae k,ae g,ag s,af a l c]] w1 λe w'=>e=.returned (ae d)/\ap w1 w'))(E:Hid (∀w1,ap w w1->au 79 #[.agg #[ae k,ae g,ag s,af a l c]] w1 λe w'=>e=.returned (ae n)/\ap w1 w')):au 53 #[.agg #[ae k,ae g,ag s,af a l c]] w λe w'=>e=.returned (ae (if j then if 12<d\/200<n then 2 else 0 else 5))/\ap w w':=by
 generalize A:(if j then if 12<d\/200<n then (2:Int)else 0 else 5)=I;have i:=av A;clear A;go_enter func53,ntmps53;go_wp2_with fail;refine(D _ (aT _ _)).mono ?_;rintro e w1 ⟨rfl,m⟩;have f:Hid (ap w w1/\w.heap.size+1<=w1.heap.size):=⟨(aT _ _).trans (m.mono (by simp)),by have:=m.size;simpa using this⟩;have b:=az m;simp only[fN]at b;have t:=(b w.heap.size 0 (by omega)).trans (by simp[go_sem]:_=some (Value.int .i64 k));have u:=(b w.heap.size 1 (by omega)).trans (by simp[go_sem]:_=some (Value.int .i64 g));have v:=(b w.heap.size 2 (by omega)).trans (by simp[go_sem]:_=some (Value.string s));have x:=(b w.heap.size 3 (by omega)).trans (by simp[go_sem]:_=some (Value.slice a l c));clear b m;cases j with
 | false=>
  go_wp2_with fail
  go_ret
  exact⟨jH (by rw[<-i.out];rfl),f.1⟩
 | true=>
  go_wp2_with fail;refine(C _ f.1).mono ?_;rintro e G ⟨rfl,q⟩;have h:Hid (ap w G):=f.1.trans (q.mono f.1.size);have b:=az q;have F:=f.2;replace t:=(b w.heap.size 0 (by omega)).trans t;replace u:=(b w.heap.size 1 (by omega)).trans u;replace v:=(b w.heap.size 2 (by omega)).trans v;replace x:=(b w.heap.size 3 (by omega)).trans x;clear b q F;by_cases y:12<d
  ·have o:=av y;go_wp2_with fail
   go_ret
   exact⟨jH (by rw[<-i.out,if_pos trivial,if_pos (ak o.out)]),h⟩
  ·have o:=av y;go_wp2_with fail;refine(E _ h).mono ?_;rintro e H ⟨rfl,z⟩;have r:Hid (ap w H):=h.trans (z.mono h.size);clear z;by_cases B:200<n
   ·have p:=av B;go_wp2_with fail
    go_ret
    exact⟨jH (by rw[<-i.out,if_pos trivial,if_pos (am p.out)]),r⟩
   ·have p:=av B;go_wp2_with fail
    go_ret
    exact⟨jH (by rw[<-i.out,if_pos trivial,if_neg (by have:=o.out;have:=p.out;omega)]),r⟩
def xN(n:Nat)(x:Tm n):Int:=if cu n x then if 12<gI n x\/200<sz n x then 2 else 0 else 5
theorem Dr(n:Nat)(x:Tm n)(B:Nat)(w:ah)(d:In B w n x)(b:B<=w.heap.size)(f:(aF n x).length<=2097152):au 53 #[dE n x] w λe w'=>e=.returned (ae (xN n x))/\ap w w':=by
 cases n with
 | zero=>exact d.elim
 | succ n=>
 exact Ds w x.1.1 x.1.2.1 x.1.2.2 x.2.1.1 x.2.2.length x.2.1.2 (cu (n+1) x) (gI (n+1) x) (sz (n+1) x)
  (λc a=>Eu (n+1) x B c (d.below (a.mono b)) (aD b a.size))
  (λc a=>Hj (n+1) x B c (d.below (a.mono b)) (aD b a.size) f)
  (λc a=>zu (n+1) x B c (d.below (a.mono b)) (aD b a.size) f)
theorem mu:(n:Nat)->(x:Tm n)->cu n x=(aF n x).all cJ
 | 0,_=>by simp[cu,aF,cJ]
 | n+1,x=>by
  have e:(aF (n+1) x).all cJ=(cJ (bP n x) && (x.2.2.flatMap λy=>aF n y).all cJ):=rfl;rw[e];simp only[cu];cases hg:cJ (bP n x)
  ·rfl
  ·rw[eS,eS];by_cases b:x.1.1=4
   ·rw[b];have key:∀l:List (Tm n),(l.all λy=>cu n y)=(l.flatMap λy=>aF n y).all cJ:=by
     intro l
     induction l with
     | nil=>rfl
     | cons y l ih=>simp only[jv,bK,lu,ih,mu n y]
    rw[key];simp
   ·have c:x.2.2=[]:=by
      unfold cJ at hg;simp only[aO,kh,cR]at hg;rcases hg.2 with a|a
      ·exact(b a).elim
      ·have:¬(0:Int)<(x.2.2.length:Int):=by simpa [bP]using a
       exact bZ (by omega)
    rw[c];simp
def oE:List Nd->List Int->Int->Int
 | x::l,d::ds,m=>oE l ds (mG x d m)
 | _,_,m=>m
theorem BB(g:Int):(l:List Nd)->(b:List Int)->(m:Int)->l.length=b.length->uE g l b m=if l.all cJ then (if 12<oE l b m\/200<g then 2 else 0)else 5
 | [],_,_,_=>rfl
 | x::l,[],_,a=>by simp at a
 | x::l,d::b,m,a=>by
  have ih:=BB g l b (mG x d m) (by simpa using a);simp only[uE,oE];by_cases f:cJ x=true
  ·have e:(x::l).all cJ=l.all cJ:=by simp[f]
   rw[if_pos f,ih];by_cases c:l.all cJ=true
   ·rw[if_pos c,if_pos (e.trans c)];rfl
   ·rw[if_neg c,if_neg (λa=>c (e.symm.trans a))]
  ·rw[if_neg f,if_neg (λa=>f (cX.1 a x (by simp)))]
theorem rZ:(l r:List Nd)->(a es:List Int)->(m:Int)->l.length=a.length->oE (l++r) (a++es) m=oE r es (oE l a m)
 | [],_,[],_,_,_=>rfl
 | [],_,_::_,_,_,h=>by simp at h
 | _::_,_,[],_,_,h=>by simp at h
 | x::l,r,d::a,es,m,h=>by
  simp only[fJ,oE];exact rZ l r a es _ (by simpa using h)
theorem Cc{n:Nat}(c:Int):(p:List (Tm n))->(m e:Int)->p.foldl (λm y=>max m (c+gI n y)) (max m (c+e))=max m (c+p.foldl (λm y=>max m (gI n y)) e)
 | [],_,_=>rfl
 | y::p,m,e=>by
  simp only[gf];have a:max (max m (c+e)) (c+gI n y)=max m (c+max e (gI n y)):=by omega
  rw[a];exact Cc c p m (max e (gI n y))
theorem BQ:(n:Nat)->(x:Tm n)->(d m:Int)->(∀a∈aF n x,cJ a=true)->d<=m->oE (aF n x) (qx n x d) m=max m (d+gI n x)
 | 0,x,_,_,h,_=>by
  have:=h ((0,0,.empty),(none,0,0)) (by simp[aF]);rcases lf _ this with g|g|g|g|g|⟨g,_⟩<;>simp at g
 | n+1,x,d,m,h,k=>by
  have f:=h (bP n x) (by simp[aF,bP]);have key:∀(p:List (Tm n))(m:Int),(∀y∈p,y∈x.2.2)->d+1<=m->oE (p.flatMap λy=>aF n y) (p.flatMap λy=>qx n y (d+1)) m=p.foldl (λm y=>max m (d+1+gI n y)) m:=by
   intro p
   induction p with
   | nil=>intro m _ _;rfl
   | cons y p ih=>
    intro m l k;simp only[bK,gf];rw[rZ _ _ _ _ _ (kQ n y (d+1)).symm,BQ n y (d+1) m (λa q=>h a (ns (l y (by simp)) q)) k];exact ih _ (λu t=>l u (by simp[t])) (by omega)
  have o:oE (aF (n+1) x) (qx (n+1) x d) m=oE (x.2.2.flatMap λy=>aF n y) (x.2.2.flatMap λy=>qx n y (d+1)) (mG (bP n x) d m):=rfl;rw[o];simp only[gI];by_cases b:x.1.1=4
  ·rw[if_pos b];have c:mG (bP n x) d m=max m (d+1+0):=by
    unfold mG bP;by_cases j:m<d+1
    ·rw[if_pos ⟨b,j⟩];omega
    ·rw[if_neg (λi=>j i.2)];omega
   rw[c,key x.2.2 _ (λ_ s=>s) (by omega),Cc];omega
  ·rw[if_neg b];have r:x.2.2=[]:=by
    unfold cJ at f;simp only[aO,kh,cR]at f;rcases f.2 with e|e
    ·exact(b e).elim
    ·have:¬(0:Int)<(x.2.2.length:Int):=by simpa [bP]using e
     exact bZ (by omega)
   have c:mG (bP n x) d m=m:=Hi _ (λi=>b i.1);rw[r,c];simp only[List.flatMap_nil,oE];omega
theorem gM(n:Nat)(x:Tm n):xN n x=bJ n x:=by
 unfold xN bJ;rw[BB _ _ _ _ (kQ n x 0).symm,<-mu n x];by_cases a:cu n x=true
 ·rw[if_pos a,if_pos a];have d:∀b∈aF n x,cJ b=true:=by
   rw[mu n x]at a;exact λb c=>cX.1 a b c
  have e:=ii n x;rw[BQ n x 0 0 d (by omega)];have:max (0:Int) (0+gI n x)=gI n x:=by omega
  rw[this]
 ·rw[if_neg a,if_neg a]
theorem dV(n:Nat)(x:Tm n)(B:Nat)(w:ah)(c:In B w n x)(a:B<=w.heap.size)(b:(aF n x).length<=2097152):au 53 #[dE n x] w λe w'=>e=.returned (ae (bJ n x))/\ap w w':=by
 rw[<-gM];exact Dr n x B w c a b
def CO(n:Nat)(y:Tm n):Bool:=bJ n y==0 && (cg ⟨n,y⟩==6 || kP n y)
def gF(n:Nat)(q:List (Tm n)):Bool:=decide (q.length=4) && q.all (CO n)
def fT(B:Nat)(w:ah)(n:Nat)(q:List (Tm n))(a:aw):Prop:=
 q=[]\/∃b o,a=some ⟨b,o,none⟩/\b<B/\∀(d:Nat)(c:Tm n),q[d]?=some c->ee w b (o+d*4) n c/\In B w n c
theorem fT.below{B:Nat}{w w':ah}(d:Below B w w'){n:Nat}{q:List (Tm n)}{a:aw}(k:fT B w n q a):fT B w' n q a:=by
 rcases k with c|⟨b,o,i,e,c⟩
 ·exact ak c
 ·exact am ⟨b,o,i,e,λg h f=>⟨(c g h f).1.below d e,(c g h f).2.below d⟩⟩
theorem rU(f:d->Bool)(q:List d)(k:Nat)(y:d)(b:q[k]?=some y):(q.drop k).all f=(f y && (q.drop (k+1)).all f):=by
 obtain⟨c,a⟩:=aZ.1 b;rw[fo c,a];rfl
theorem MK(a:aw)(len pc:Nat)(w:ah)(_hl:len<=9223372036854775807)(b:((len:Int) !=4)=true):au 225 #[af a len pc] w λe w'=>e=.returned (.bool false)/\w'=w:=by
 go_enter func225,ntmps225;go_wp2_with fail
 go_ret
 exact⟨rfl,rfl⟩
theorem G1(n:Nat)(q:List (Tm n))(z po pc:Nat)(B:Nat)(w:ah)(L:Hid (q.length=4))(R:z<B)(K:∀(i:Nat)(y:Tm n),q[i]?=some y->ee w z (po+i*4) n y/\In B w n y)(H:∀y∈q,(aF n y).length<=2097152)(C:B<=w.heap.size):au 225 #[af (some ⟨z,po,none⟩) 4 pc] w λe w'=>e=.returned (.bool (q.all (CO n)))/\ap w w':=by
 go_enter func225,ntmps225;go_wp2_with fail;go_loopw [10] (λi wr=>∃k:Nat,k<=4/\i=ae k/\ap w wr/\Hid ((q.drop k).all (CO n)=q.all (CO n))) (λi _=>4-(intOf i).toNat)
 case atStart=>exact⟨0,by omega,rfl,aE _ _,rfl⟩
 case round=>
  obtain⟨k,X,rfl,c,l⟩:=hrel;by_cases Q:k<4
  ·obtain⟨a,v⟩:∃a,q[k]?=some a:=⟨q[k]'(by rw[L.out];exact Q),aS _⟩;have s:=av (rU (CO n) q k a v);obtain⟨x,m⟩:=K k a v;have I:=H a (aR v);replace x:=x.below (c.mono C) R;replace m:=m.below (c.mono C);clear K v H;cases n with
   | zero=>exact x.elim
   | succ n=>
   obtain⟨T,U,V,W⟩:=x;have t:B<=wr.heap.size:=aD C c.size
   have F:Hid (∀b,ap wr b->au 53 #[.agg (bf a)] b λe w'=>e=.returned (ae (bJ (n+1) a))/\ap b w'):=
    λb j=>dV (n+1) a B b (m.below (j.mono t)) (aD t j.size) I
   have N:Hid (∀b,ap wr b->au 132 #[.agg (bf a)] b λe w'=>e=.returned (.bool (aV (n+1) a))/\ap b w'):=
    λb j=>iZ (n+1) a B b (m.below (j.mono t)) (aD t j.size)
   have r:Hid (CO (n+1) a=(bJ (n+1) a==0 && (a.1.1==6 || aV (n+1) a))):=by unfold Hid CO;rw[fP];rfl
   clear m I;generalize a.2.2.length=ab at*;generalize aV (n+1) a=cl at*;generalize bJ (n+1) a=h at*;generalize CO (n+1) a=ok at*;have Y:(0:Int)<=(k:Int):=by omega
   have Z:(k:Int)<(4:Int):=by omega
   have aa:z<wr.heap.size:=by omega
   have E:Hid (∀o,ap wr (wr.alloc o)):=λo=>aT _ _;go_wp2_with fail;refine(F _ (E _)).mono ?_;rintro e b ⟨rfl,u⟩;obtain⟨⟨t0,t1,t2,t3⟩,_⟩:=F4 u;have A:Hid (ap wr b):=(E _).trans (u.mono (by simp));have O:Hid (wr.heap.size<b.heap.size):=by have:=u.size;simp at this;unfold Hid;omega
   clear u T U V W F;by_cases f:h=0
   ·have P:(h !=0)=false:=by simp[f]
    have g:Hid (h=0):=f;clear f;go_wp2_with fail;refine(jR _ _ _ _ _ _ _).mono ?_;rintro e M ⟨rfl,D⟩;obtain⟨t4,t5,t6,t7⟩:=oS O D ⟨t0,t1,t2,t3⟩;have p:Hid (ap wr M):=A.trans (D.mono A.size);clear D t0 t1 t2 t3;cases G:a.1.1==6
    ·simp only[Bool.not_false];go_wp2_with fail;refine(N _ p).mono ?_;rintro e S ⟨rfl,J⟩;have d:ap w S:=c.trans ((p.trans (J.mono p.size)).mono c.size);clear J;cases cl with
     | true=>
      go_wp2_with fail;go_roundw
      case rel=>exact⟨k+1,by omega,by go_num,d,by rw[<-l.out,s.out,r.out,g.out];simp[Hid]⟩
      case measure=>simp[intOf];omega
     | false=>
      go_wp2_with fail
      go_ret
      exact⟨f9 (by rw[<-l.out,s.out,r.out,g.out,G];simp),d⟩
    ·simp only[Bool.not_true];have d:ap w M:=c.trans (p.mono c.size);go_wp2_with fail;go_roundw
     case rel=>exact⟨k+1,by omega,by go_num,d,by rw[<-l.out,s.out,r.out,g.out,G];simp[Hid]⟩
     case measure=>simp[intOf];omega
   ·have P:(h !=0)=true:=by simpa using f
    have g:Hid ((h==0)=false):=by simpa [Hid]using f
    have d:ap w b:=c.trans (A.mono c.size);clear f;go_wp2_with fail
    go_ret
    exact⟨f9 (by rw[<-l.out,s.out,r.out,g.out];simp),d⟩
  ·go_wp2_with fail
   go_ret
   refine⟨f9 ?_,c⟩;rw[<-l.out,kj (by rw[L.out];omega)];rfl
theorem Bt(n:Nat)(q:List (Tm n))(a:aw)(pc B:Nat)(w:ah)(d:fT B w n q a)(i:q.length<=9223372036854775807)(g:∀y∈q,(aF n y).length<=2097152)(f:B<=w.heap.size):au 225 #[af a q.length pc] w λe w'=>e=.returned (.bool (gF n q))/\ap w w':=by
 unfold gF;by_cases c:q.length=4
 ·rcases d with d|⟨b,o,rfl,h,j⟩
  ·rw[d]at c;simp at c
  ·have k:=G1 n q b o pc B w c h j g f;rw[c];simpa using k
 ·refine(MK a q.length pc w i (by simp;omega)).mono ?_;rintro e w' ⟨rfl,rfl⟩;exact⟨by simp[c],aE _ _⟩
def bi:(N:Nat)->(n:Nat)->Tm n->Tm N
 | 0,_,_=>()
 | _+1,0,_=>((0,0,.empty),(none,0),[])
 | N+1,n+1,x=>(x.1,x.2.1,x.2.2.map λy=>bi N n y)
theorem Nw(N n:Nat)(x:Tm (n+1)):gK (N+1) (bi (N+1) (n+1) x)=gK (n+1) x:=by simp[gK,bP,bi]
theorem yy(N n:Nat)(g:n<=N)(x:Tm n)(w:ah)(b o:Nat)(k:ee w b o n x):ee w b o N (bi N n x):=by
 cases n with
 | zero=>exact k.elim
 | succ n=>
  obtain⟨N,rfl⟩:∃a,N=a+1:=⟨N-1,by omega⟩;obtain⟨c,d,e,f⟩:=k;exact⟨c,d,e,by simpa [bi]using f⟩
theorem pO:(N n:Nat)->n<=N->(x:Tm n)->(B:Nat)->(w:ah)->In B w n x->In B w N (bi N n x)
 | _,0,_,_,_,_,k=>k.elim
 | 0,n+1,h,_,_,_,_=>by omega
 | N+1,n+1,h,x,B,w,k=>by
  obtain⟨j,a⟩:=k;refine⟨by simpa [bi]using j,?_⟩;rcases a with a|⟨b,o,e,g,a⟩
  ·exact ak (by simp[bi,a])
  ·refine am ⟨b,o,e,g,λi y d=>?_⟩;simp only[bi,df]at d;obtain⟨c,f,rfl⟩:=cH.1 d;exact⟨yy N n (by omega) c w b _ (a i c f).1,pO N n (by omega) c B w (a i c f).2⟩
theorem od:(N n:Nat)->n<=N->(x:Tm (n+1))->aF (N+1) (bi (N+1) (n+1) x)=aF (n+1) x
 | N,0,_,x=>by
  have:∀l:List (Tm 0),(l.map λy=>bi N 0 y).flatMap (λy=>aF N y)=l.flatMap λy=>aF 0 y:=by
   intro l
   induction l with
   | nil=>rfl
   | cons a l ih=>
    simp only[bz,bK,ih];congr 1;cases N with
    | zero=>rfl
    | succ N=>simp[bi,aF]
  simp only[aF,bi,cD,this]
 | 0,n+1,h,_=>by omega
 | N+1,n+1,h,x=>by
  have:∀l:List (Tm (n+1)),(l.map λy=>bi (N+1) (n+1) y).flatMap (λy=>aF (N+1) y)=l.flatMap λy=>aF (n+1) y:=by
   intro l
   induction l with
   | nil=>rfl
   | cons a l ih=>
    simp only[bz,bK,ih];rw[od N n (by omega) a]
  have b:aF (N+2) (bi (N+2) (n+2) x)=(x.1,(x.2.1.1,(x.2.2.map λy=>bi (N+1) (n+1) y).length,x.2.1.2))::(x.2.2.map λy=>bi (N+1) (n+1) y).flatMap λy=>aF (N+1) y:=rfl;rw[b,this];simp[aF]
def nP(b:List An):Nat:=b.foldr (λa m=>max a.1 m) 0
theorem A1(b:List An):∀a∈b,a.1<=nP b:=by
 induction b with
 | nil=>intro a d;cases d
 | cons c b ih=>
  intro a d;simp only[nP,List.foldr_cons];rcases co.1 d with rfl|d
  ·omega
  ·have:=ih a d;unfold nP at this;omega
def Dz(b:List An):List (Tm (nP b)):=b.map λa=>bi (nP b) a.1 a.2
theorem Mk(b:List An)(i:Nat)(y:Tm (nP b))(c:(Dz b)[i]?=some y):∃a,b[i]?=some a/\a.1<=nP b/\y=bi (nP b) a.1 a.2:=by
 simp only[Dz,df]at c;obtain⟨a,d,rfl⟩:=cH.1 c;exact⟨a,d,A1 b a (aR d),rfl⟩
theorem Ml(e:nR base g c b w)(k:∀y∈b,GV B w y)(j:B<=w.heap.size):fT w.heap.size w (nP b) (Dz b) (some ⟨g,0,none⟩):=by
 refine am ⟨g,0,rfl,e.lt.2,λa y m=>?_⟩;obtain⟨d,f,i,rfl⟩:=Mk b a y m;have h:=k d (aR f);refine⟨?_,(pO _ _ i _ _ _ h).mono j⟩;obtain⟨n,o⟩:=d;have l:=e.cells a _ f;cases n with
 | zero=>exact h.elim
 | succ n=>
  rw[cw];exact yy _ _ i o w g (a*4) l
theorem JG(f:∀y∈b,aJ y/\y.1≠0):∀y∈Dz b,aJ ⟨nP b,y⟩:=by
 intro y k;obtain⟨m,h⟩:=dh k;obtain⟨e,g,i,rfl⟩:=Mk b m y h;have j:=f e (aR g);obtain⟨n,o⟩:=e;cases n with
 | zero=>exact(j.2 rfl).elim
 | succ n=>
  intro p c;clear h k g f;generalize nP b=d at*;obtain⟨a,rfl⟩:∃a,d=a+1:=⟨d-1,by simp only at i;omega⟩;have l:=od a n (by simp only at i;omega) o;simp only at c;rw[l]at c;exact j.1 p c
theorem jq{c d:Type}(f:c->d->Bool):(p:List c)->(q:List d)->(x:c)->(y:d)->aL f p q=true->f x y=true->aL f (p++ [x]) (q++ [y])=true
 | [],[],x,y,_,h=>by simp[aL,h]
 | [],_::_,_,_,h,_=>by simp[aL]at h
 | _::_,[],_,_,h,_=>by simp[aL]at h
 | a::p,b::q,x,y,h,k=>by
  simp only[aL,aO,fJ]at h ⊢;exact⟨h.1,jq f p q x y h.2 k⟩
theorem cV{c d:Type}(f:c->d->Bool):(p:List c)->(q:List d)->aL f p q=true->p.length=q.length
 | [],[],_=>rfl
 | [],_::_,h=>by simp[aL]at h
 | _::_,[],h=>by simp[aL]at h
 | a::p,b::q,h=>by
  simp only[aL,aO]at h;simp[cV f p q h.2]
def zA:An:=⟨1,((0,0,.empty),(none,0),[])⟩
theorem IC(n:Nat):(madeCells #[ae 0,ae 0,ag .empty,af none 0 0] (n*4)).toList=gn (List.replicate n zA):=by
 apply nF;intro b;by_cases e:b<n*4
 ·obtain⟨k,a,f,rfl⟩:∃k a,a<4/\b=k*4+a:=⟨b / 4,b % 4,Nat.mod_lt _ (by decide),by omega⟩;have g:k<n:=by omega
  have c:(gn (List.replicate n zA))[k*4+a]?=(wK (um zA))[a]? :=ji _ k (um zA) (by simp[g]) a f;rw[c];have d:(madeCells #[ae 0,ae 0,ag .empty,af none 0 0] (n*4))[k*4+a]?=some ((#[ae 0,ae 0,ag .empty,af none 0 0]:Array ax)[(k*4+a) % 4]!):=by
   simp[madeCells,e]
  rw[nD,d,show (k*4+a) % 4=a by omega];have:a=0\/a=1\/a=2\/a=3:=by omega
  rcases this with rfl|rfl|rfl|rfl<;>rfl
 ·rw[fq (by simp[size_madeCells];omega),fq (by rw[lN];simp;omega)]
def vm(n:Nat)(p:List (Tm n))(len g k:Nat)(l:List (Tm n))(wr:ah):Prop:=
 l.length=k/\nR g g len (l.map (λe=>(⟨n,e⟩:An))++List.replicate (len-k) zA) wr/\(∀a∈l,In wr.heap.size wr n a/\cE (λd=>g<d) n a)/\aL (λc b=>aH n c n b) l (p.take k)=true
theorem vm.step{p:List (Tm n)}{l:List (Tm n)}(j:vm n p len g k l wr)(w:k<len)(x:Tm n)(u:p[k]?=some x)(c:ap wr w1)(y:Tm n)(v:In w1.heap.size w1 n y)(h:cE (λq=>g<q) n y)(s:aH n y n x=true):vm n p len g (k+1) (l++ [y]) (jW w1 g (k*4) (gK n y)):=by
 obtain⟨e,m,b,o⟩:=j;have f:=(m.below c).put k ⟨n,y⟩ (by simp;omega);have i:(l.map (λx=>(⟨n,x⟩:An))++List.replicate (len-k) zA).set k ⟨n,y⟩=(l++ [y]).map (λx=>(⟨n,x⟩:An))++List.replicate (len-(k+1)) zA:=by
  rw[iK _ _ (by simp;omega)];have:len-k=(len-(k+1))+1:=by omega
  rw[this,List.replicate_succ];simp[e]
 rw[i]at f;refine⟨by simp[e],f,?_,?_⟩
 ·intro d a;have t:(jW w1 g (k*4) (gK n y)).heap.size=w1.heap.size:=bI _ _ _ _;rw[t];rcases dt.1 a with a|a
  ·exact⟨In.off (λq r=>bv (by omega) _ _ _ _) (b d a).2 (((b d a).1.below c).mono c.size),(b d a).2⟩
  ·simp only[dN]at a;subst a;exact⟨In.off (λq r=>bv (by omega) _ _ _ _) h v,h⟩
 ·rw[dJ,u];exact jq _ _ _ _ _ o s
def ie(n:Nat)(p:List (Tm n))(w w':ah)(a:aw)(c:Nat)(l:List (Tm n)):Prop:=
 ap w w'/\l.length=p.length/\l.length<=c/\c<=maxLen/\aL (λa b=>aH n a n b) l p=true/\
 (l=[]\/∃b o,a=some ⟨b,o,none⟩/\(w.heap.size<=b/\o=0/\(∀g,w'.frozen? ⟨b,g,none⟩=false)/\∀d∈l,cE (λe=>e≠b) n d)/\b<w'.heap.size/\∀(f:Nat)(d:Tm n),l[f]?=some d->ee w' b (o+f*4) n d/\In w'.heap.size w' n d/\cE (λe=>w.heap.size<=e) n d)
theorem vm.done{p:List (Tm n)}{l:List (Tm n)}(f:vm n p len w.heap.size k l wr)(u:p.length=len)(j:k=len)(g:ap w wr)(m:len<=maxLen):ie n p w wr (some ⟨w.heap.size,0,none⟩) len l:=by
 obtain⟨t,c,d,e⟩:=f;subst j;rw[bF (by omega)]at e;rw[iq,nL,eD]at c;refine⟨g,by omega,by omega,m,e,am ⟨w.heap.size,0,rfl,⟨ay _,rfl,λr=>c.free r,λb a=>(d b a).2.mono λs o=>by omega⟩,c.lt.2,λq b a=>⟨?_,(d b (aR a)).1,(d b (aR a)).2.mono λs o=>by omega⟩⟩⟩;have h:=c.cells q ⟨n,b⟩ (by simp[a]);have i:=(d b (aR a)).1;cases n with
 | zero=>exact i.elim
 | succ n=>
  rw[cw];exact h
def Qv(n:Nat):Prop:=∀(x:Tm n)(B:Nat)(w:ah),In B w n x->B<=w.heap.size->aJ ⟨n,x⟩->
 au 91 #[dE n x] w λe w'=>∃y:Tm n,e=.returned (dE n y)/\Hid (ap w w'/\In w'.heap.size w' n y/\cE (λq=>w.heap.size<=q) n y/\aH n y n x=true)
theorem vy{t:aq}(b:(s.toList==t.toList)=true):s=t:=by
 have a:s.toList=t.toList:=by simpa using b
 rw[cC,cC]at a;cases s;cases t;simp only at a;rw[Array.toList_inj.1 a]
theorem bT{x:Tm (n+1)}{y:Tm (m+1)}(c:aH (n+1) x (m+1) y=true):x.1=y.1/\aL (λa b=>aH n a m b) x.2.2 y.2.2=true:=by
 simp only[aH,aO,cR]at c;obtain⟨⟨⟨d,e⟩,f⟩,g⟩:=c;refine⟨?_,g⟩;have h:=vy (s:=x.1.2.2) (t:=y.1.2.2) (by simpa using f);exact iM d (iM e h)
theorem dB{x:Tm (n+1)}{y:Tm (m+1)}(c:x.1=y.1)(k:aL (λa b=>aH n a m b) x.2.2 y.2.2=true):aH (n+1) x (m+1) y=true:=by
 simp only[aH,c,k];simp
theorem rq{c d:Type}(f:c->d->Bool)(g:d->c->Bool):(p:List c)->(q:List d)->(∀a∈p,∀b,f a b=true->g b a=true)->aL f p q=true->aL g q p=true
 | [],[],_,_=>rfl
 | [],_::_,_,h=>by simp[aL]at h
 | _::_,[],_,h=>by simp[aL]at h
 | a::p,b::q,hf,h=>by
  simp only[aL,aO]at h ⊢;exact⟨hf a (by simp) b h.1,rq f g p q (λe i=>hf e (b8 _ i)) h.2⟩
theorem dD:(n:Nat)->(x:Tm n)->(m:Nat)->(y:Tm m)->aH n x m y=true->aH m y n x=true
 | 0,_,_,_,h=>by simp[aH]at h
 | _+1,_,0,_,h=>by simp[aH]at h
 | n+1,x,m+1,y,h=>by
  obtain⟨c,d⟩:=bT h;exact dB c.symm (rq _ _ _ _ (λa _ b e=>dD n a m b e) d)
theorem pq{d e i:Type}(f:d->e->Bool)(g:e->i->Bool)(k:d->i->Bool):(p:List d)->(q:List e)->(r:List i)->(∀a∈p,∀b c,f a b=true->g b c=true->k a c=true)->aL f p q=true->aL g q r=true->aL k p r=true
 | [],[],[],_,_,_=>rfl
 | [],[],_::_,_,_,h=>by simp[aL]at h
 | [],_::_,_,_,h,_=>by simp[aL]at h
 | _::_,[],_,_,h,_=>by simp[aL]at h
 | _::_,_::_,[],_,_,h=>by simp[aL]at h
 | a::p,b::q,c::r,hf,h1,h2=>by
  simp only[aL,aO]at h1 h2 ⊢;exact⟨hf a (by simp) b c h1.1 h2.1,pq f g k p q r (λj l=>hf j (b8 _ l)) h1.2 h2.2⟩
theorem bU:(n:Nat)->(x:Tm n)->(m:Nat)->(y:Tm m)->(l:Nat)->(d:Tm l)->aH n x m y=true->aH m y l d=true->aH n x l d=true
 | 0,_,_,_,_,_,h,_=>by simp[aH]at h
 | _+1,_,0,_,_,_,h,_=>by simp[aH]at h
 | _+1,_,_+1,_,0,_,_,h=>by simp[aH]at h
 | n+1,x,m+1,y,l+1,d,h,k=>by
  obtain⟨e,f⟩:=bT h;obtain⟨j,o⟩:=bT k;exact dB (e.trans j) (pq _ _ _ _ _ _ (λa _ b c g i=>bU n a m b l c g i) f o)
theorem jp{b:Type}(f:b->b->Bool):(p:List b)->(∀a∈p,f a a=true)->aL f p p=true
 | [],_=>rfl
 | a::p,h=>by
  simp only[aL,aO];exact⟨h a (by simp),jp f p λc d=>h c (b8 _ d)⟩
theorem fR:(n:Nat)->(x:Tm n)->aJ ⟨n,x⟩->aH n x n x=true
 | 0,_,h=>(dF h).elim
 | n+1,x,h=>dB rfl (jp _ _ λy a=>fR n y (br n x y h a))
theorem aW{x:Tm n}:aJ ⟨n,x⟩ ↔ cu n x=true:=by
 rw[mu,cX];exact Iff.rfl
theorem Nf{x:Int×Int×aq}{a b:aw}{l d:Nat}:cJ (x,(a,l,c))=cJ (x,(b,l,d)):=rfl
theorem tL{c d:Type}(f:c->d->Bool)(g:c->Bool)(k:d->Bool):(p:List c)->(q:List d)->(∀a∈p,∀b,f a b=true->g a=k b)->aL f p q=true->p.all g=q.all k
 | [],[],_,_=>rfl
 | [],_::_,_,h=>by simp[aL]at h
 | _::_,[],_,h=>by simp[aL]at h
 | a::p,b::q,hf,h=>by
  simp only[aL,aO]at h;simp only[jv,hf a (by simp) b h.1,tL f g k p q (λe i=>hf e (b8 _ i)) h.2]
theorem jm{c d e:Type}(f:c->d->Bool)(g:c->e)(k:d->e):(p:List c)->(q:List d)->(∀a∈p,∀b,f a b=true->g a=k b)->aL f p q=true->p.map g=q.map k
 | [],[],_,_=>rfl
 | [],_::_,_,h=>by simp[aL]at h
 | _::_,[],_,h=>by simp[aL]at h
 | a::p,b::q,hf,h=>by
  simp only[aL,aO]at h;simp only[bz,hf a (by simp) b h.1,jm f g k p q (λi j=>hf i (b8 _ j)) h.2]
theorem vV{b:Type}(g:b->Int):(p:List b)->(i:Int)->p.foldl (λm y=>max m (g y)) i=(p.map g).foldl max i
 | [],_=>rfl
 | a::p,i=>by simp only[gf,bz];exact vV g p _
theorem cF:(n:Nat)->(x:Tm n)->(m:Nat)->(y:Tm m)->aH n x m y=true->aV n x=aV m y
 | 0,_,_,_,h=>by simp[aH]at h
 | _+1,_,0,_,h=>by simp[aH]at h
 | n+1,x,m+1,y,h=>by
  obtain⟨c,d⟩:=bT h;simp only[aV,c];rw[tL _ _ _ _ _ (λa _ b e=>cF n a m b e) d]
theorem jZ:(n:Nat)->(x:Tm n)->(m:Nat)->(y:Tm m)->aH n x m y=true->cu n x=cu m y
 | 0,_,_,_,h=>by simp[aH]at h
 | _+1,_,0,_,h=>by simp[aH]at h
 | n+1,x,m+1,y,h=>by
  obtain⟨a,c⟩:=bT h;have e:cJ (bP n x)=cJ (bP m y):=by
   have g:=cV _ _ _ c;unfold bP;rw[a,g];exact Nf
  simp only[cu,e,a];rw[tL _ _ _ _ _ (λd _ b f=>jZ n d m b f) c]
theorem kV:(n:Nat)->(x:Tm n)->(m:Nat)->(y:Tm m)->aH n x m y=true->sz n x=sz m y
 | 0,_,_,_,h=>by simp[aH]at h
 | _+1,_,0,_,h=>by simp[aH]at h
 | n+1,x,m+1,y,h=>by
  obtain⟨c,d⟩:=bT h;simp only[sz,c];rw[jm _ (λy=>1+sz n y) (λy=>1+sz m y) _ _ (λa _ b e=>by rw[kV n a m b e]) d]
theorem C9:(n:Nat)->(x:Tm n)->(m:Nat)->(y:Tm m)->aH n x m y=true->gI n x=gI m y
 | 0,_,_,_,h=>by simp[aH]at h
 | _+1,_,0,_,h=>by simp[aH]at h
 | n+1,x,m+1,y,h=>by
  obtain⟨c,d⟩:=bT h;simp only[gI,c];rw[vV (λy=>gI n y),vV (λy=>gI m y),jm _ (λy=>gI n y) (λy=>gI m y) _ _ (λa _ b e=>C9 n a m b e) d]
theorem bN{x:Tm n}{y:Tm m}(a:aH n x m y=true):bJ n x=bJ m y:=by
 rw[<-gM,<-gM];unfold xN;rw[jZ n x m y a,kV n x m y a,C9 n x m y a]
theorem lk{x:Tm n}{y:Tm m}(a:aH n x m y=true):cg ⟨n,x⟩=cg ⟨m,y⟩:=by
 cases n with
 | zero=>simp[aH]at a
 | succ n=>
  cases m with
  | zero=>simp[aH]at a
  | succ m=>
   have:=(bT a).1;simp only[cg,this]
theorem jY{c d:Type}(f:c->d->Bool):(p:List c)->(q:List d)->aL f p q=true->∀(i:Nat)(a:c)(b:d),p[i]?=some a->q[i]?=some b->f a b=true
 | [],_,_,i,a,b,ha,_=>by simp at ha
 | _::_,[],h,_,_,_,_,_=>by simp[aL]at h
 | a::p,b::q,h,0,a',b',ha,hb=>by
  simp only[aL,aO]at h;simp at ha hb;subst ha hb;exact h.1
 | a::p,b::q,h,i+1,a',b',ha,hb=>by
  simp only[aL,aO]at h;exact jY f p q h.2 i a' b' (by simpa using ha) (by simpa using hb)
theorem jo{b c:Type}(f:c->b->Bool)(g:b->c):(p:List b)->(∀a∈p,f (g a) a=true)->aL f (p.map g) p=true
 | [],_=>rfl
 | a::p,h=>by
  simp only[bz,aL,aO];exact⟨h a (by simp),jo f g p λd e=>h d (b8 _ e)⟩
theorem fQ:(N n:Nat)->n<=N->(x:Tm n)->aJ ⟨n,x⟩->aH N (bi N n x) n x=true
 | _,0,_,_,h=>(dF h).elim
 | 0,n+1,h,_,_=>by omega
 | N+1,n+1,h,x,hr=>dB rfl (jo _ _ _ λy a=>fQ N n (by omega) y (br n x y hr a))
theorem eq(s:aq)(w:ah)(b:s.size<=2048):au 112 #[ag s] w λe w'=>e=.returned (ag s)/\ap w w':=by
 go_enter func112,ntmps112;go_wp2_with (go_at_call 143;refine(Tryz.stringslite_Clone s w (by omega)).mono ?_;rintro e w' ⟨rfl,a⟩)
 go_ret
 exact⟨rfl,a⟩
theorem mr(a:aw)(pc:Nat)(w:ah):au 133 #[af a 0 pc] w λe w'=>e=.returned (af none 0 0)/\w'=w:=by
 go_enter func133,ntmps133;go_wp2_with fail
 go_ret
 exact⟨rfl,rfl⟩
theorem rY(n:Nat)(p:List (Tm n))(len:Nat)(a:w1.ownsRow w.heap.size 54 4 (af (some ⟨w.heap.size,0,none⟩) len len) len (madeCells (Value.agg #[ae 0,ae 0,ag .empty,af none 0 0]).cells (len*4)).toList):vm n p len w.heap.size 0 [] w1:=by
 refine⟨rfl,?_,(λd c=>by cases c),rfl⟩;have b:(madeCells (Value.agg #[ae 0,ae 0,ag .empty,af none 0 0]).cells (len*4)).toList=gn (List.replicate len zA):=IC len;rw[b]at a;unfold nR;simpa using a
theorem zU(n:Nat)(ih:Qv n)(p:List (Tm n))(len:Nat)(L:Hid (p.length=len))(r po pc:Nat)(B:Nat)(w:ah)(am:0<len)(aw:len<=1048576)(W:r<B)(u:∀(i:Nat)(y:Tm n),p[i]?=some y->ee w r (po+i*4) n y/\In B w n y)(M:∀y∈p,aJ ⟨n,y⟩)(G:B<=w.heap.size):au 133 #[af (some ⟨r,po,none⟩) len pc] w λe w'=>∃l,e=.returned (af (some ⟨w.heap.size,0,none⟩) len len)/\Hid (ie n p w w' (some ⟨w.heap.size,0,none⟩) len l):=by
 obtain⟨X,hit,N,O,P⟩:=bR gL;have ar:((len:Int)==0)=false:=by simp;omega
 go_enter func133,ntmps133;go_wp2_with (at_make;refine lL _ rfl _ _ 52 rfl w.heap.size 54 X _ 4 underlying52 hit N O _ _ _ _ len rfl rfl rfl rfl (by rw[P];omega) (by unfold maxLen;omega) (ay _) ?_;intro Z K f);have E:=av (rY n p len K);have z:Hid (ap w Z):=⟨f.os,f.tape,f.output,f.size,λk I=>f.block k I (by simp)⟩;clear K f hit N O P;go_wp2_with fail;go_loopw [14] (λi wr=>∃k:Nat,k<=len/\i=ae k/\Hid (ap w wr/\∃l,vm n p len w.heap.size k l wr)) (λi _=>len-(intOf i).toNat)
 case atStart=>exact⟨0,by omega,rfl,z,[],E⟩
 case round=>
  obtain⟨k,I,rfl,C⟩:=hrel;obtain⟨g,l,d⟩:Hid (ap w wr)/\∃l,Hid (vm n p len w.heap.size k l wr):=C.out;clear C;by_cases J:k<len
  ·obtain⟨a,m⟩:∃a,p[k]?=some a:=⟨p[k]'(by rw[L.out];exact J),aS _⟩;obtain⟨o,q⟩:=u k a m;have U:=av m;have D:=av (M a (aR m));replace o:=o.below (g.mono G) W;replace q:=q.below (g.mono G);have V:w.heap.size<wr.heap.size:=d.2.1.lt.2;have H:B<=wr.heap.size:=by omega
   clear u m M E z;cases n with
   | zero=>exact o.elim
   | succ n=>
   obtain⟨aa,ab,ad,ag⟩:=o
   have A:Hid (∀(b:ah),ap wr b->au 91 #[.agg (bf a)] b λe w'=>∃y:Tm (n+1),e=.returned (dE (n+1) y)/\Hid (ap b w'/\In w'.heap.size w' (n+1) y/\cE (λs=>b.heap.size<=s) (n+1) y/\aH (n+1) y (n+1) a=true)):=
    λb c=>ih a B b (q.below (c.mono H)) (aD H c.size) D
   clear ih q D;generalize a.2.2.length=az at*;have ao:(0:Int)<=(k:Int):=by omega
   have aq:(k:Int)<(len:Int):=by omega
   have ax:r<wr.heap.size:=by omega
   go_wp2_with fail;refine(A _ (aT _ _)).mono ?_;rintro e b ⟨y,rfl,h⟩;have j:Hid (ap wr b):=(aT _ _).trans (h.1.mono (by simp));have T:=av (d.step J a U j y h.2.1 (h.2.2.1.mono λs v=>by simp at v;omega) h.2.2.2);have t:=av (d.2.1.below j);have R:Hid (ap w (jW b w.heap.size (k*4) (gK (n+1) y))):=by
    have c:=g.trans (j.mono (Nat.le_of_lt V));exact⟨c.os,c.tape,c.output,aD c.size (cQ (bI _ _ _ _).symm),λs v=>(bv (by omega) _ _ _ _).trans (c.block s v)⟩
   obtain⟨x,Q⟩:∃x,(l.map (λa=>(⟨n+1,a⟩:An))++List.replicate (len-k) zA)[k]?=some x:=⟨_,aS (by simp[d.out.1];omega)⟩;obtain⟨ai,aj,ak,al⟩:=t.out.cells k x Q;have an:=λY=>t.free Y;have F:dE (n+1) y=.agg (bf y):=rfl;rw[F];clear A d g h j t aa ab ad ag Q F;go_wp2_with fail;go_roundw
   case rel=>exact⟨k+1,by omega,by go_num,R,l++ [y],T⟩
   case measure=>simp[intOf];omega
  ·have S:=av (d.done L (by omega) g (by unfold maxLen;omega));clear d u;go_wp2_with fail
   go_ret
   exact⟨l,rfl,S⟩
def Qu(n:Nat):Prop:=∀(p:List (Tm n))(a:aw)(pc B:Nat)(w:ah),(p=[]\/∃b o,a=some ⟨b,o,none⟩/\b<B/\∀(i:Nat)(y:Tm n),p[i]?=some y->ee w b (o+i*4) n y/\In B w n y)->p.length<=1048576->(∀y∈p,aJ ⟨n,y⟩)->B<=w.heap.size->
 au 133 #[af a p.length pc] w λe w'=>∃c d l,e=.returned (af c p.length d)/\Hid (ie n p w w' c d l)
theorem t8(n:Nat)(ih:Qv n):Qu n:=by
 intro c i pc g d a p q k;rcases a with a|⟨b,o,rfl,m,a⟩
 ·subst a;refine(mr i pc d).mono ?_;rintro e f ⟨rfl,rfl⟩;exact⟨none,0,[],rfl,aE _ _,rfl,ay _,aK _,rfl,ak rfl⟩
 ·by_cases j:c.length=0
  ·have:c=[]:=bZ j;subst this;refine(mr _ pc d).mono ?_;rintro e f ⟨rfl,rfl⟩;exact⟨none,0,[],rfl,aE _ _,rfl,ay _,aK _,rfl,ak rfl⟩
  ·refine(zU n ih c c.length rfl b o pc g d (by omega) p m a q k).mono ?_;rintro e f ⟨l,rfl,h⟩;exact⟨_,_,l,rfl,h⟩
theorem G4(a:Below ((w.alloc p).alloc r).drew.heap.size ((w.alloc p).alloc r).drew w1):ap w w1/\w.heap.size<w1.heap.size/\w.heap.size+1<w1.heap.size:=by
 have b:ap w ((w.alloc p).alloc r).drew:=((aT _ _).alloc (by simp) _).drew;have d:=a.size;have c:((w.alloc p).alloc r).drew.heap.size=w.heap.size+2:=by simp[World.drew]
 exact⟨b.trans (a.mono b.size),by omega,by omega⟩
theorem gZ(a:Below B w w1):∀b o,b<B->w1.frozen? ⟨b,o,none⟩=w.frozen? ⟨b,o,none⟩:=λb o c=>a.frozen (p:=⟨b,o,none⟩) c
theorem JF{e:TypeId}(d:Below ((w.alloc (.cells #[v0,v1,v2,v3] t)).alloc (.cells #[f,i,j,l] e)).drew.heap.size ((w.alloc (.cells #[v0,v1,v2,v3] t)).alloc (.cells #[f,i,j,l] e)).drew w'):(ai w' w.heap.size 0 v0/\ai w' w.heap.size 1 v1/\ai w' w.heap.size 2 v2/\ai w' w.heap.size 3 v3)/\ w'.cell? ⟨w.heap.size+1,0,none⟩=some f/\w'.cell? ⟨w.heap.size+1,1,none⟩=some i/\w'.cell? ⟨w.heap.size+1,2,none⟩=some j/\w'.cell? ⟨w.heap.size+1,3,none⟩=some l/\ w'.frozen? ⟨w.heap.size+1,0,none⟩=false/\w'.frozen? ⟨w.heap.size+1,1,none⟩=false/\w'.frozen? ⟨w.heap.size+1,2,none⟩=false/\w'.frozen? ⟨w.heap.size+1,3,none⟩=false:=by
 have a:=λo=>d.cell (p:=⟨w.heap.size,o,none⟩) (by simp[World.drew];try omega);have b:=λo=>d.cell (p:=⟨w.heap.size+1,o,none⟩) (by simp[World.drew];try omega);have c:=λo=>d.frozen (p:=⟨w.heap.size+1,o,none⟩) (by simp[World.drew];try omega);exact⟨⟨(a 0).trans (by simp[go_sem]),(a 1).trans (by simp[go_sem]),(a 2).trans (by simp[go_sem]),(a 3).trans (by simp[go_sem])⟩,(b 0).trans (by simp[go_sem]),(b 1).trans (by simp[go_sem]),(b 2).trans (by simp[go_sem]),(b 3).trans (by simp[go_sem]),(c 0).trans (by simp[go_sem]),(c 1).trans (by simp[go_sem]),(c 2).trans (by simp[go_sem]),(c 3).trans (by simp[go_sem])⟩
theorem DW(a:q<w1.heap.size)(d:ap w1 w2)(k:ai w1 q 0 f/\ai w1 q 1 i/\ai w1 q 2 j/\ai w1 q 3 l/\ w1.frozen? ⟨q,0,none⟩=false/\w1.frozen? ⟨q,1,none⟩=false/\w1.frozen? ⟨q,2,none⟩=false/\w1.frozen? ⟨q,3,none⟩=false):ai w2 q 0 f/\ai w2 q 1 i/\ai w2 q 2 j/\ai w2 q 3 l/\ w2.frozen? ⟨q,0,none⟩=false/\w2.frozen? ⟨q,1,none⟩=false/\w2.frozen? ⟨q,2,none⟩=false/\w2.frozen? ⟨q,3,none⟩=false:=by
 obtain⟨e,g,h,m,d0,d1,d2,d3⟩:=k;have b:=az d;have c:=gZ d;exact⟨(b _ _ a).trans e,(b _ _ a).trans g,(b _ _ a).trans h,(b _ _ a).trans m,(c _ _ a).trans d0,(c _ _ a).trans d1,(c _ _ a).trans d2,(c _ _ a).trans d3⟩
theorem ie.box{p:List (Tm n)}{a:aw}{l:List (Tm n)}(r:ie n p w1 w2 a c l)(h:ap w w1)(f:w.heap.size+1<w1.heap.size)(v0 v1 v2 v3:ax):ie n p w (dj w2 (w.heap.size+1) 0 v0 v1 v2 v3) a c l:=by
 obtain⟨s,t,u,v,x,d⟩:=r;have e:=h.trans (s.mono h.size);have F:=h.size;refine⟨⟨e.os,e.tape,e.output,aD e.size (cQ (bI _ _ _ _).symm),λj f=>(bv (by omega) _ _ _ _).trans (e.block j f)⟩,t,u,v,x,?_⟩;rcases d with d|⟨b,o,q,i,y,d⟩
 ·exact ak d
 ·refine am ⟨b,o,q,⟨by omega,i.2.1,λB=>?_,i.2.2.2⟩,by rw[bI];exact y,λA E z=>?_⟩
  ·have k:=i.2.2.1 B;unfold World.frozen? at k ⊢;rw[bv (w:=w2) (g:=w.heap.size+1) (b:=b) (o:=0) (by omega) v0 v1 v2 v3];exact k
  obtain⟨C,D,m⟩:=d A E z;refine⟨C.block (bv (by omega) _ _ _ _),?_,m.mono λj f=>by omega⟩;rw[bI];exact In.off (λj f=>bv (by omega) _ _ _ _) m D
theorem mZ(x:Nd)(a:cJ x=true):x.2.2.1<=8:=by
 by_cases b:x.1.1=4
 ·simp[cJ,b]at a;omega
 ·have:=(eW x a).2.2.2.2 b;omega
theorem tr(x:Nd)(a:cJ x=true):x.1.2.2.size<=8:=by
 by_cases c:x.1.1=2
 ·simp[cJ,c,eh,qW]at a;omega
 ·have b:=(eW x a).1 c;have e:x.1.2.2.data.toList=[]:=by rw[cC]at b;exact b
  have:x.1.2.2.size=0:=by
   have d:x.1.2.2.size=x.1.2.2.data.toList.length:=by rw[ls];rfl
   rw[d,e];rfl
  omega
theorem tg(n:Nat)(k g:Int)(s:aq)(a:aw)(len pc:Nat)(p:List (Tm n))(w:ah)(F:s.size<=2048)(m:Hid (∀w1,ap w w1->au 133 #[af a len pc] w1 λe w'=>∃b c l,e=.returned (af b len c)/\Hid (ie n p w1 w' b c l))):au 91 #[.agg #[ae k,ae g,ag s,af a len pc]] w λe w'=>∃b c l,e=.returned (.agg #[ae k,ae g,ag s,af b len c])/\Hid (ie n p w w' b c l):=by
 go_enter func91,ntmps91;go_wp2_with fail;go_region_held3 (λw'=>w'.cell? ⟨w.heap.size,0,none⟩=some (ae k)/\w'.cell? ⟨w.heap.size,1,none⟩=some (ae g)/\w'.cell? ⟨w.heap.size,2,none⟩=some (ag s)/\w'.cell? ⟨w.heap.size,3,none⟩=some (af a len pc)) (go_keep) ((first|(go_at_call 112;refine(eq s _ F).mono ?_;rintro e w1 ⟨rfl,i⟩;have f:=av (G4 i);have d:=av (JF i);have q:=d.1.1;have r:=d.1.2.1;have t:=d.1.2.2.1;have u:=d.1.2.2.2;clear i)|(go_at_call 133;refine(m _ f.1).mono ?_;rintro e G ⟨b,c,l,rfl,h⟩;have j:=av (DW f.2.2 h.1 d.2);obtain⟨B,C,D,E,d0,d1,d2,d3⟩:=j.out;obtain⟨x,y,z,A⟩:=oS f.2.1 h.1 d.1)));have o:=av (h.box f.1 f.2.2 (ae k) (ae g) (ag s) (af b len c));clear h f d j q r t u x y z A;go_wp2_with fail;exact aB (v:=.agg #[ae k,ae g,ag s,af b len c]) (by simp[results,results91,go_sem,B,C,D,E]) rfl ⟨b,c,l,rfl,o⟩
theorem iB(n:Nat):Qv n:=by
 induction n with
 | zero=>intro a m u k;exact k.elim
 | succ n ih=>
  intro a m u k j t;have E:=k;obtain⟨⟨G,H,D,K,J⟩,h⟩:=E;have s:=t (bP n a) (by simp[aF,bP]);have I:a.2.2.length<=8:=mZ (bP n a) s;have C:a.1.2.2.size<=2048:=by have:=tr (bP n a) s;simp only[bP]at this;omega
  refine(tg n a.1.1 a.1.2.1 a.1.2.2 a.2.1.1 a.2.2.length a.2.1.2 a.2.2 u C ?_).mono ?_
  ·intro F i;refine t8 n ih a.2.2 a.2.1.1 a.2.1.2 m F ?_ (by omega) (λe d=>br n a e t d) (aD j i.size);rcases h with h|⟨b,o,g,p,h⟩
   ·exact ak h
   ·exact am ⟨b,o,g,p,λf e d=>⟨(h f e d).1.below (i.mono j) p,(h f e d).2.below (i.mono j)⟩⟩
  ·rintro g L ⟨w,x,l,rfl,v⟩;obtain⟨i,y,z,A,B,c⟩:=v;refine⟨(a.1,(w,x),l),by rw[<-y];rfl,i,⟨⟨G,H,D,z,A⟩,?_⟩,?_,?_⟩
   ·rcases c with c|⟨b,o,g,q,r,c⟩
    ·exact ak c
    ·exact am ⟨b,o,g,r,λf e d=>⟨(c f e d).1,(c f e d).2.1⟩⟩
   ·rcases c with c|⟨b,o,g,q,r,c⟩
    ·exact ak c
    ·exact am ⟨b,o,g,q.1,λf e d=>(c f e d).2.2⟩
   ·simp only[aH];simp[B]
def qE:aq:=⟨#[115,101,108,102]⟩
def A6:aq:=⟨#[97,100,100]⟩
def DC:aq:=⟨#[112,117,116]⟩
def qq(N:Nat)(x:Tm N):Int:=(gK N x).1.2.1
def uX(n:Nat)(p:List (Tm n))(s:aq)(k:Nat):Bool:=
 decide (p.length=1+k) && match p[0]? with
  | some a=>cg ⟨n,a⟩==2 && (gK n a).1.2.2.toList==s.toList
  | none=>false
def cY{c d:Type}(f:c->Option d):List c->Option (List d)
 | []=>some []
 | a::p=>(f a).bind λb=>(cY f p).map λl=>b::l
def cv(k a:Int)(N:Nat):Tm (N+1):=((k,a,.empty),(none,0),[])
def AV(N:Nat)(a c:Tm N):Bool:=cg ⟨N,a⟩==1 && cg ⟨N,c⟩==1 && qW (qq N a+qq N c) (-1099511627776) 1099511627776
def uP(N:Nat)(a c:Tm N):Option (Tm (N+1)):=if AV N a c then some (cv 1 (qq N a+qq N c) N)else none
def dR(N:Nat)(l:List (Tm N)):Tm (N+1):=((4,0,.empty),(none,0),l)
def vl(m:Nat)(b:List (Tm m))(self:Int):(n:Nat)->Tm n->Option (Tm (m+n))
 | 0,_=>none
 | n+1,x=>
  if x.1.1=5 then (b[x.1.2.1.toNat]?).bind λy=>if cg ⟨m,y⟩=6 then none else some (bi (m+n+1) m y)
  else if x.1.1=6 then none
  else if x.1.1=4 then
   if uX n x.2.2 qE 0 then some (cv 3 self (m+n))
   else if uX n x.2.2 A6 2 then
    (x.2.2[1]?).bind λa=>(x.2.2[2]?).bind λc=>(vl m b self n a).bind λa=>(vl m b self n c).bind λc=>uP (m+n) a c
   else if uX n x.2.2 DC 1 then
    (x.2.2[1]?).bind λa=>if aV n a then some (bi (m+n+1) n a)else none
   else (cY (λy=>vl m b self n y) x.2.2).map (dR (m+n))
  else some (bi (m+n+1) (n+1) x)
theorem rT{e g:Type}(f:e->Option g):(p:List e)->(l:List g)->cY f p=some l->l.length=p.length/\∀(i:Nat)(a:e)(y:g),p[i]?=some a->l[i]?=some y->f a=some y
 | [],l,b=>by simp[cY]at b;subst b;exact⟨rfl,λi a y c=>by simp at c⟩
 | a::p,l,b=>by
  simp only[cY]at b;obtain⟨y,n,b⟩:=cr.1 b;obtain⟨r,m,rfl⟩:=cH.1 b;obtain⟨j,k⟩:=rT f p r m;refine⟨by simp[j],λi h o c d=>?_⟩;cases i with
  | zero=>
   simp at c d;subst c d;exact n
  | succ i=>exact k i h o (by simpa using c) (by simpa using d)
theorem mR{c d:Type}(f:c->Option d):(p:List c)->(i:Nat)->(a:c)->p[i]?=some a->f a=none->cY f p=none
 | [],i,a,h,_=>by simp at h
 | b::p,0,a,h,k=>by
  simp at h;subst h;simp[cY,k]
 | b::p,i+1,a,h,k=>by
  simp only[cY];rw[mR f p i a (by simpa using h) k];simp
theorem xW{b c:Type}(f:b->Option c)(g:b->c):(p:List b)->(∀a∈p,f a=some (g a))->cY f p=some (p.map g)
 | [],_=>rfl
 | a::p,h=>by simp[cY,h a (by simp),xW f g p λx d=>h x (b8 _ d)]
theorem Ao{b c d:Type}(f:b->List d)(g:c->List d)(K:Nat):(p:List b)->(l:List c)->l.length=p.length->(∀(i:Nat)(a:b)(y:c),p[i]?=some a->l[i]?=some y->(g y).length<=K*(f a).length)->(l.flatMap g).length<=K*(p.flatMap f).length
 | [],[],_,_=>by simp
 | [],_::_,h,_=>by simp at h
 | _::_,[],h,_=>by simp at h
 | a::p,y::l,h,k=>by
  have m:=k 0 a y rfl rfl;have n:=Ao f g K p l (by simpa using h) λi a y e j=>k (i+1) a y (by simpa using e) (by simpa using j);simp only[bK,bm];rw[Nat.mul_add];omega
theorem pP:(N n:Nat)->n<=N->(x:Tm n)->(aF N (bi N n x)).length<=(aF n x).length
 | 0,0,_,_=>ay _
 | _+1,0,_,_=>by simp[bi,aF]
 | 0,n+1,h,_=>by omega
 | N+1,n+1,h,x=>by
  have:=Ao (λy=>aF n y) (λy=>aF N y) 1 x.2.2 (x.2.2.map λy=>bi N n y) (by simp) λi a y c b=>by
   simp[c]at b;subst b;rw[Nat.one_mul];exact pP N n (by omega) a
  simp only[aF,bi,bt];omega
theorem wu{a K:Nat}(b:1<=K):a<=K*a:=Nat.le_mul_of_pos_left a b
theorem CC(f:d->List h)(p:List d)(a:d)(c:a∈p):(f a).length<=(p.flatMap f).length:=by
 induction p with
 | nil=>cases c
 | cons b p ih=>
  simp only[bK,bm];rcases co.1 c with rfl|c
  ·omega
  ·have:=ih c;omega
theorem DB(m:Nat)(b:List (Tm m))(self:Int)(K:Nat)(f:1<=K)(q:∀y∈b,(aF m y).length<=K):(n:Nat)->(x:Tm n)->(o:Tm (m+n))->vl m b self n x=some o->(aF (m+n) o).length<=K*(aF n x).length
 | 0,_,_,d=>by simp[vl]at d
 | n+1,x,o,d=>by
  have one:∀k r,(aF (m+n+1) (cv k r (m+n))).length<=K*(aF (n+1) x).length:=λk r=>by
   have:1*1<=K*(aF (n+1) x).length:=Nat.mul_le_mul f (by simp[aF]);simpa [aF,cv]using this
  have up:∀(y:Tm n),y∈x.2.2->K*(aF n y).length<=K*(aF (n+1) x).length:=λy j=>by
   have:=CC (λy=>aF n y) x.2.2 y j;exact Nat.mul_le_mul_left K (by simp only[aF,bt]at this ⊢;omega)
  simp only[vl]at d;split at d
  ·obtain⟨y,j,d⟩:=cr.1 d;split at d
   ·cases d
   ·obtain rfl:=aG d;have e:=pP (m+n+1) m (by omega) y;have g:=q y (aR j);have h:K*1<=K*(aF (n+1) x).length:=Nat.mul_le_mul_left K (by simp[aF]);show (aF (m+n+1) _).length<=_;omega
  ·split at d
   ·cases d
   ·split at d
    ·split at d
     ·obtain rfl:=aG d;exact one _ _
     ·split at d
      ·obtain⟨a,p,d⟩:=cr.1 d;obtain⟨c,A,d⟩:=cr.1 d;obtain⟨v,z,d⟩:=cr.1 d;obtain⟨w,B,d⟩:=cr.1 d;unfold uP at d;split at d
       ·obtain rfl:=aG d;exact one _ _
       ·cases d
      ·split at d
       ·obtain⟨a,p,d⟩:=cr.1 d;split at d
        ·obtain rfl:=aG d;have e:=pP (m+n+1) n (by omega) a;have g:=up a (aR p);have h:=wu (a:=(aF n a).length) f;show (aF (m+n+1) _).length<=_;omega
        ·cases d
       ·obtain⟨l,u,rfl⟩:=cH.1 d;obtain⟨e,g⟩:=rT _ _ _ u;have h:=Ao (λy=>aF n y) (λy=>aF (m+n) y) K x.2.2 l e λi a y s t=>DB m b self K f q n a y (g i a y s t);show (aF (m+n+1) (dR (m+n) l)).length<=_;simp only[aF,dR,bt];rw[Nat.mul_add];omega
    ·obtain rfl:=aG d;have e:=pP (m+n+1) (n+1) (by omega) x;have h:=wu (a:=(aF (n+1) x).length) f;show (aF (m+n+1) _).length<=_;omega
theorem lm:(n:Nat)->(x:Tm n)->(m:Nat)->(y:Tm m)->aH n x m y=true->(aF n x).length=(aF m y).length
 | 0,_,_,_,h=>by simp[aH]at h
 | _+1,_,0,_,h=>by simp[aH]at h
 | n+1,x,m+1,y,h=>by
  obtain⟨f,e⟩:=bT h;have key:∀(p:List (Tm n))(q:List (Tm m)),aL (λa b=>aH n a m b) p q=true->(p.flatMap λy=>aF n y).length=(q.flatMap λy=>aF m y).length:=by
   intro p
   induction p with
   | nil=>intro q d;cases q with
    | nil=>rfl
    | cons _ _=>simp[aL]at d
   | cons a p ih=>intro q d;cases q with
    | nil=>simp[aL]at d
    | cons c q=>
     simp only[aL,aO]at d;simp only[bK,bm];rw[lm n a m c d.1,ih q d.2]
  simp only[aF,bt];rw[key _ _ e]
theorem bS{x:Tm n}:bJ n x=0 ↔ cu n x=true/\gI n x<=12/\sz n x<=200:=by
 rw[<-gM];unfold xN;constructor
 ·intro a;split at a
  ·rename_i c;split at a
   ·cases a
   ·rename_i f;exact⟨c,by omega,by omega⟩
  ·cases a
 ·rintro ⟨b,d,e⟩;rw[if_pos b,if_neg (by omega)]
theorem Gy:(n:Nat)->(x:Tm n)->aJ ⟨n,x⟩->((aF n x).length:Int)<=sz n x+1
 | 0,_,h=>(dF h).elim
 | n+1,x,h=>by
  have c:=eW (bP n x) (h (bP n x) (by simp[aF,bP]));by_cases a:x.1.1=4
  ·have key:∀l:List (Tm n),(∀y∈l,aJ ⟨n,y⟩)->((l.flatMap λy=>aF n y).length:Int)<=(l.map λy=>1+sz n y).sum:=by
     intro l
     induction l with
     | nil=>intro _;simp
     | cons y l ih=>
      intro b;have g:=Gy n y (b y (by simp));have i:=ih λf e=>b f (b8 _ e);simp only[bK,bm,bz,di];omega
   have:=key x.2.2 λy d=>br n x y h d;simp only[aF,bt,sz,if_pos a];omega
  ·have:x.2.2=[]:=bZ (c.2.2.2.2 a);simp[aF,this,sz,a]
theorem jO{x:Tm n}(a:bJ n x=0):(aF n x).length<=201:=by
 obtain⟨b,_,c⟩:=bS.1 a;have:=Gy n x (aW.2 b);omega
theorem iA{b:List (Tm m)}(a:gF m b=true):b.length=4/\∀y∈b,bJ m y=0/\aJ ⟨m,y⟩/\(cg ⟨m,y⟩=6\/aV m y=true):=by
 unfold gF at a;simp only[aO,cT,cX]at a;refine⟨a.1,λy c=>?_⟩;have:=a.2 y c;unfold CO at this;simp only[aO,kh,cR]at this;refine⟨this.1,aW.2 (bS.1 this.1).1,?_⟩;rw[fP];exact this.2
theorem qY(e:n<=N)(x:Tm n)(c:aJ ⟨n,x⟩):aJ ⟨N,bi N n x⟩:=by
 cases n with
 | zero=>exact(dF c).elim
 | succ n=>
  obtain⟨a,rfl⟩:∃a,N=a+1:=⟨N-1,by omega⟩;intro d b;simp only at b;rw[od a n (by omega) x]at b;exact c d b
theorem wU{x:Tm (N+1)}(c:cJ (bP N x)=true)(k:∀y∈x.2.2,aJ ⟨N,y⟩):aJ ⟨N+1,x⟩:=by
 intro b a;simp only[aF,co,ko]at a;rcases a with rfl|⟨y,d,a⟩
 ·exact c
 ·exact k y d b a
theorem xn(m:Nat)(b:List (Tm m))(self:Int)(k:1<=self/\self<=99)(i:∀y∈b,aJ ⟨m,y⟩):(n:Nat)->(x:Tm n)->aJ ⟨n,x⟩->(g:Tm (m+n))->vl m b self n x=some g->aJ ⟨m+n,g⟩
 | 0,_,_,_,d=>by simp[vl]at d
 | n+1,x,hr,g,d=>by
  have r:=hr (bP n x) (by simp[aF,bP]);have B:x.2.2.length<=8:=mZ (bP n x) r;simp only[vl]at d;split at d
  ·obtain⟨y,e,d⟩:=cr.1 d;split at d
   ·cases d
   ·obtain rfl:=aG d;exact qY (N:=m+n+1) (by omega) y (i y (aR e))
  ·split at d
   ·cases d
   ·split at d
    ·split at d
     ·obtain rfl:=aG d;exact wU (N:=m+n) (by simp[cJ,cv,bP,qW,k]) (by intro y e;cases e)
     ·split at d
      ·obtain⟨a,h,d⟩:=cr.1 d;obtain⟨c,z,d⟩:=cr.1 d;obtain⟨u,w,d⟩:=cr.1 d;obtain⟨v,A,d⟩:=cr.1 d;unfold uP at d;split at d
       ·rename_i o;obtain rfl:=aG d;simp only[AV,aO]at o;exact wU (N:=m+n) (by simp[cJ,cv,bP,o.2]) (by intro y e;cases e)
       ·cases d
      ·split at d
       ·obtain⟨a,h,d⟩:=cr.1 d;split at d
        ·obtain rfl:=aG d;exact qY (N:=m+n+1) (by omega) a (br n x a hr (aR h))
        ·cases d
       ·obtain⟨l,t,rfl⟩:=cH.1 d;obtain⟨p,q⟩:=rT _ _ _ t;refine wU (N:=m+n) ?_ λy e=>?_
        ·have:(l.length:Int)<=8:=by omega
         simp[cJ,dR,bP,this]
        ·obtain⟨f,j⟩:=dh e;have s:f<x.2.2.length:=by rw[<-p];exact(aZ.1 j).1
         exact xn m b self k i n x.2.2[f] (br n x _ hr (gg _)) y (q f _ y (aS s) j)
    ·obtain rfl:=aG d;exact qY (N:=m+n+1) (by omega) x hr
def GH(a:Int)(bd:Bool)(self:Int):Int:=if a=0 then if bd then if 1<=self/\self<=99 then 0 else 1 else 5 else a
def oQ{N:Nat}(E:Int)(o:Option (Tm N)):Option (Tm N):=if E=0 then o.bind λa=>if bJ N a=0 then some a else none else none
def GG{N:Nat}(E:Int)(o:Option (Tm N)):Int:=if E=0 then if o.isSome then 0 else 7 else E
theorem Gs{p:List (Tm n)}(a:p.length≠1+k):uX n p s k=false:=by simp[uX,a]
theorem Pd{p:List (Tm (n+1))}{y:Tm (n+1)}(a:p.length=1+k)(b:p[0]?=some y):uX (n+1) p s k=(y.1.1==2 && y.1.2.2.toList==s.toList):=by
 simp[uX,a,b,cg,gK,bP]
theorem Iq(a:aw)(len pc:Nat)(s:aq)(k:Nat)(w:ah)(f:k<=8)(c:len≠1+k):au 245 #[af a len pc,ag s,ae k] w λe w'=>e=.returned (.bool false)/\w'=w:=by
 have d:((len:Int)==1+(k:Int))=false:=by simp;omega
 have b:IntKind.i64.wrap (1+(k:Int))=1+(k:Int):=by rw[IntKind.wrap];simp[IntKind.bits,IntKind.signed];omega
 go_enter func245,ntmps245;go_wp2_with fail
 go_ret
 exact⟨rfl,rfl⟩
theorem Ip(a po len pc:Nat)(s:aq)(k:Nat)(b:Int)(c:aq)(w:ah)(l:len<=8)(j:k<=8)(g:len=1+k)(c0:ai w a po (ae b))(d:ai w a (po+2) (ag c)):au 245 #[af (some ⟨a,po,none⟩) len pc,ag s,ae k] w λe w'=>e=.returned (.bool (b==2 && c.toList==s.toList))/\w'=w:=by
 have h:((len:Int)==1+(k:Int))=true:=by simp;omega
 have f:IntKind.i64.wrap (1+(k:Int))=1+(k:Int):=by rw[IntKind.wrap];simp[IntKind.bits,IntKind.signed];omega
 have i:(0:Int)<(len:Int):=by omega
 cases hx:b==2
 ·go_enter func245,ntmps245;go_wp2_with fail
  go_ret
  exact⟨rfl,rfl⟩
 ·go_enter func245,ntmps245;go_wp2_with fail
  go_ret
  exact⟨rfl,rfl⟩
theorem EF(n:Nat)(p:List (Tm n))(a:aw)(pc B:Nat)(s:aq)(k:Nat)(w:ah)(d:fT B w n p a)(m:p.length<=8)(h:k<=8):au 245 #[af a p.length pc,ag s,ae k] w λe w'=>e=.returned (.bool (uX n p s k))/\w'=w:=by
 by_cases c:p.length=1+k
 ·rcases d with d|⟨b,o,rfl,u,d⟩
  ·rw[d]at c;simp at c;omega
  ·obtain⟨f,i⟩:∃f,p[0]?=some f:=⟨p[0]'(by omega),aS _⟩;obtain⟨g,t⟩:=d 0 f i;cases n with
   | zero=>exact g.elim
   | succ n=>
    rw[Pd c i];obtain⟨j,q,l,r⟩:=g;exact Ip b o p.length pc s k f.1.1 f.1.2.2 w m h c (by simpa using j) (by simpa using l)
 ·rw[Gs c];exact Iq a p.length pc s k w h c
def kM(N:Nat)(o:Option (Tm N))(w:ah)(e:Ending)(w':ah):Prop:=
 ∃(a:Tm N)(b:Bool),e=.returned (.tuple #[dE N a,.bool b])/\Hid (ap w w'/\In w'.heap.size w' N a/\cE (λd=>w.heap.size<=d) N a/\b=o.isSome/\∀c,o=some c->aH N a N c=true)
def OI(m:Nat)(b:List (Tm m))(self:Int)(n:Nat):Prop:=∀(x:Tm n)(a:aw)(c B:Nat)(w:ah),In B w n x->aJ ⟨n,x⟩->fT B w m b a->B<=w.heap.size->
 au 231 #[.agg #[af a 4 c,ae self],dE n x] w (kM (m+n) (vl m b self n x) w)
def OL{N:Nat}(o:Option (Tm N))(w:ah)(e:Ending)(w':ah):Prop:=
 ∃(c:Int)(b:Bool),e=.returned (.tuple #[ae c,.bool b])/\Hid (ap w w'/\b=(o.isSome && o.all λa=>cg ⟨N,a⟩==1)/\∀a,o=some a->c=qq N a)
theorem EU{o:Option (Tm (N+1))}{y:Tm (N+1)}{r:Bool}(f:ap w w2)(d:ap w1 w2/\In w2.heap.size w2 (N+1) y/\cE (λq=>w1.heap.size<=q) (N+1) y/\r=o.isSome/\∀a,o=some a->aH (N+1) y (N+1) a=true)(c:Bool)(g:c=(r && y.1.1==1)):ap w w2/\c=(o.isSome && o.all λa=>cg ⟨N+1,a⟩==1)/\∀a,o=some a->y.1.2.1=qq (N+1) a:=by
 obtain⟨_,_,_,e,b⟩:=d;refine⟨f,?_,λa h=>?_⟩
 ·rw[g,e];cases ho:o with
  | none=>rfl
  | some a=>
   have:=(bT (b a ho)).1;simp[cg,this]
 ·have:=(bT (b a h)).1;simp[qq,gK,bP,this]
theorem JE(b:Below ((w.alloc p).alloc r).heap.size ((w.alloc p).alloc r) w'):ap w w':=by
 have a:ap w ((w.alloc p).alloc r):=(aT _ _).alloc (by simp) _;exact a.trans (b.mono a.size)
theorem ut(N:Nat)(o:Option (Tm (N+1)))(a:aw)(c:Nat)(self:Int)(j k:Int)(l:aq)(xa:aw)(m xc:Nat)(w:ah)(h:Hid (∀w1,ap w w1->au 231 #[.agg #[af a 4 c,ae self],.agg #[ae j,ae k,ag l,af xa m xc]] w1 (kM (N+1) o w1))):au 250 #[.agg #[af a 4 c,ae self],.agg #[ae j,ae k,ag l,af xa m xc]] w (OL o w):=by
 go_enter func250,ntmps250;go_wp2_with fail;refine(h _ ((aT _ _).alloc (by simp) _)).mono ?_;rintro s e ⟨n,q,rfl,d⟩;have HB:Hid (ap w e):=JE d.1;have i:dE (N+1) n=.agg (bf n):=rfl;rw[i];clear i h;have g:=λr p=>av (EU HB d r p);clear HB d;have f:Hid (∀o:Obj,ap w e->ap w (e.alloc o).drew):=λo b=>(b.alloc b.size o).drew;cases q
 ·go_wp2_with fail;go_region;go_wp2_with fail
  go_ret2
  have b:=(g false rfl).out;exact⟨_,_,rfl,f _ b.1,b.2⟩
 ·go_wp2_with fail;go_region;go_wp2_with fail
  go_ret2
  have b:=(g _ rfl).out;exact⟨_,_,rfl,f _ b.1,b.2⟩
def PQ{N:Nat}(o:Option (Tm N)):Prop:=∀a,o=some a->cg ⟨N,a⟩=1-> -1099511627776<=qq N a/\qq N a<=1099511627776
def xM{N:Nat}(b d:Option (Tm N)):Option (Tm (N+1)):=b.bind λa=>d.bind λc=>uP N a c
theorem NZ{a d:Option (Tm N)}(b:(a.isSome && a.all λe=>cg ⟨N,e⟩==1)=false):xM a d=none:=by
 cases a with
 | none=>rfl
 | some f=>
  simp at b;cases d with
  | none=>rfl
  | some c=>simp[xM,uP,AV,b]
theorem L7{d a:Option (Tm N)}(b:(a.isSome && a.all λe=>cg ⟨N,e⟩==1)=false):xM d a=none:=by
 cases d with
 | none=>rfl
 | some f=>
  cases a with
  | none=>rfl
  | some c=>
   simp at b;simp[xM,uP,AV,b]
theorem L8{b d:Option (Tm N)}{e v:Int}(i:true=(b.isSome && b.all λa=>cg ⟨N,a⟩==1))(j:true=(d.isSome && d.all λa=>cg ⟨N,a⟩==1))(k:∀a,b=some a->e=qq N a)(l:∀a,d=some a->v=qq N a)(m:PQ b)(n:PQ d):xM b d=(if -1099511627776<=e+v/\e+v<=1099511627776 then some (cv 1 (e+v) N)else none)/\(-1099511627776<=e/\e<=1099511627776)/\(-1099511627776<=v/\v<=1099511627776):=by
 cases b with
 | none=>simp at i
 | some f=>
  cases d with
  | none=>simp at j
  | some c=>
   have g:cg ⟨N,f⟩=1:=by simpa using i.symm
   have h:cg ⟨N,c⟩=1:=by simpa using j.symm
   rw[k f rfl,l c rfl];refine⟨?_,m f rfl g,n c rfl h⟩;simp[xM,uP,AV,g,h,qW]
theorem jQ:dm 0:=by simp[dm]
theorem lW(N:Nat)(k a:Int)(b:dm k)(c:dm a)(B:Nat)(w:ah)(P:aU):In B w (N+1) (cv k a N)/\cE P (N+1) (cv k a N):=
 ⟨⟨⟨b,c,aK _,aK _,aK _⟩,ak rfl⟩,ak rfl⟩
theorem yw(N:Nat)(k a:Int):aH (N+1) (cv k a N) (N+1) (cv k a N)=true:=dB rfl rfl
theorem lq(a:ap w w'):kM (N+1) none w (.returned (.tuple #[.agg #[ae 0,ae 0,ag .empty,af none 0 0],.bool false])) w':=
 ⟨cv 0 0 N,false,rfl,a,(lW N 0 0 jQ jQ _ _ (λ_=>True)).1,(lW N 0 0 jQ jQ 0 w _).2,rfl,λc b=>by cases b⟩
theorem zx(d:ap w w')(k a:Int)(b:dm k)(c:dm a):kM (N+1) (some (cv k a N)) w (.returned (.tuple #[.agg #[ae k,ae a,ag .empty,af none 0 0],.bool true])) w':=
 ⟨cv k a N,true,rfl,d,(lW N k a b c _ _ (λ_=>True)).1,(lW N k a b c 0 w _).2,rfl,λf e=>by obtain rfl:=aG e;exact yw N k a⟩
theorem nY(w:ah)(a b c d:Obj):ap w ((((w.alloc a).alloc b).alloc c).alloc d):=(((aT _ _).alloc (by simp) _).alloc (by simp;omega) _).alloc (by simp;omega) _
def oM(q:Nat)(w:ah):Prop:=(w.cell? ⟨q,0,none⟩=some (ae 0)/\w.cell? ⟨q,1,none⟩=some (ae 0)/\w.cell? ⟨q,2,none⟩=some (ag .empty)/\w.cell? ⟨q,3,none⟩=some (af none 0 0))/\(w.frozen? ⟨q,0,none⟩=false/\w.frozen? ⟨q,1,none⟩=false/\w.frozen? ⟨q,2,none⟩=false/\w.frozen? ⟨q,3,none⟩=false)/\q<w.heap.size
theorem oM.below(e:oM q w)(c:ap w w'):oM q w':=by
 obtain⟨⟨f,g,h,i⟩,⟨f0,f1,f2,f3⟩,d⟩:=e;have a:=λo=>c.cell (p:=⟨q,o,none⟩) d;have b:=λo=>c.frozen (p:=⟨q,o,none⟩) d;exact⟨⟨(a 0).trans f,(a 1).trans g,(a 2).trans h,(a 3).trans i⟩,⟨(b 0).trans f0,(b 1).trans f1,(b 2).trans f2,(b 3).trans f3⟩,aY d c.size⟩
theorem Ew(a:Below ((((w.alloc (.cells #[s0,s1] t1)).alloc (.cells #[f,i,j,l] t2)).alloc (.cells #[y0,y1,y2,u] t3)).alloc (.cells #[ae 0,ae 0,ag .empty,af none 0 0] t4)).heap.size ((((w.alloc (.cells #[s0,s1] t1)).alloc (.cells #[f,i,j,l] t2)).alloc (.cells #[y0,y1,y2,u] t3)).alloc (.cells #[ae 0,ae 0,ag .empty,af none 0 0] t4)) w'):(ai w' w.heap.size 0 s0/\ai w' w.heap.size 1 s1)/\ (w'.cell? ⟨w.heap.size+1+1,0,none⟩=some y0/\w'.cell? ⟨w.heap.size+1+1,1,none⟩=some y1/\w'.cell? ⟨w.heap.size+1+1,2,none⟩=some y2/\w'.cell? ⟨w.heap.size+1+1,3,none⟩=some u)/\oM (w.heap.size+1+1+1) w':=by
 have g:=a.size;simp at g;have e:=λo=>a.cell (p:=⟨w.heap.size,o,none⟩) (by simp;omega);have b:=λo=>a.cell (p:=⟨w.heap.size+1+1,o,none⟩) (by simp;try omega);have d:=λo=>a.cell (p:=⟨w.heap.size+1+1+1,o,none⟩) (by simp);have c:=λo=>a.frozen (p:=⟨w.heap.size+1+1+1,o,none⟩) (by simp)
 exact⟨⟨(e 0).trans (by simp[go_sem]),(e 1).trans (by simp[go_sem])⟩,⟨(b 0).trans (by simp[go_sem]),(b 1).trans (by simp[go_sem]),(b 2).trans (by simp[go_sem]),(b 3).trans (by simp[go_sem])⟩,
  ⟨(d 0).trans (by simp[go_sem]),(d 1).trans (by simp[go_sem]),(d 2).trans (by simp[go_sem]),(d 3).trans (by simp[go_sem])⟩,⟨(c 0).trans (by simp[go_sem]),(c 1).trans (by simp[go_sem]),(c 2).trans (by simp[go_sem]),(c 3).trans (by simp[go_sem])⟩,by omega⟩
theorem dw(a:ap w w')(c:w.heap.size<=q)(v0 v1 v2 v3:ax):ap w (dj w' q 0 v0 v1 v2 v3):=
 ⟨a.os,a.tape,a.output,aD a.size (cQ (bI _ _ _ _).symm),λk b=>(bv (by omega) _ _ _ _).trans (a.block k b)⟩
theorem L9(N:Nat)(p q:Option (Tm N))(B:Hid (PQ p))(C:Hid (PQ q))(a:aw)(c:Nat)(self:Int)(D E:Int)(F:aq)(xa:aw)(G xc:Nat)(y0 y1:Int)(y2:aq)(ya:aw)(yl yc:Nat)(w:ah)(u:Hid (∀w1,ap w w1->au 250 #[.agg #[af a 4 c,ae self],.agg #[ae D,ae E,ag F,af xa G xc]] w1 (OL p w1)))(x:Hid (∀w1,ap w w1->au 250 #[.agg #[af a 4 c,ae self],.agg #[ae y0,ae y1,ag y2,af ya yl yc]] w1 (OL q w1))):au 246 #[.agg #[af a 4 c,ae self],.agg #[ae D,ae E,ag F,af xa G xc],.agg #[ae y0,ae y1,ag y2,af ya yl yc]] w (kM (N+1) (xM p q) w):=by
 obtain⟨o,t⟩:∃o,o=xM p q:=⟨_,rfl⟩;rw[<-t];have l:=av t;clear t;go_enter func246,ntmps246;go_wp2_with fail;refine(u _ (nY _ _ _ _ _)).mono ?_;rintro K O ⟨b,j,rfl,d⟩;obtain⟨⟨L,M⟩,⟨d0,d1,d2,d3⟩,A⟩:=Ew d.1;have r:=av A;have HB:Hid (ap w O):=(nY _ _ _ _ _).trans (d.1.mono (nY _ _ _ _ _).size);have m:Hid (j=_/\_):=d.2;clear u d A;cases j
 ·have e:Hid (o=none):=l.trans (NZ m.1.symm);obtain⟨⟨f,g,h,i⟩,⟨f0,f1,f2,f3⟩,_⟩:=r.out;go_wp2_with fail;rw[e.out];exact aB (v:=.tuple #[.agg #[ae 0,ae 0,ag .empty,af none 0 0],.bool false]) (by simp[results,results246,go_sem,f,g,h,i];rfl) rfl (lq (dw HB (by omega) _ _ _ _))
 ·go_wp2_with fail;refine(x _ HB).mono ?_;rintro K P ⟨v,j,rfl,d⟩;have k:Hid (ap w P):=HB.trans (d.1.mono HB.size);have n:Hid (j=_/\_):=d.2;have H:=av (r.below d.1);obtain⟨⟨f,g,h,i⟩,⟨f0,f1,f2,f3⟩,_⟩:=H;clear x d HB L M d0 d1 d2 d3 r;cases j
  ·have e:Hid (o=none):=l.trans (L7 n.1.symm);go_wp2_with fail;rw[e.out];exact aB (v:=.tuple #[.agg #[ae 0,ae 0,ag .empty,af none 0 0],.bool false]) (by simp[results,results246,go_sem,f,g,h,i];rfl) rfl (lq (dw k (by omega) _ _ _ _))
  ·obtain⟨es,⟨R,S⟩,T,U⟩:=L8 m.1 n.1 m.2 n.2 B C;have s:Hid (o=if -1099511627776<=b+v/\b+v<=1099511627776 then some (cv 1 (b+v) N)else none):=l.trans es;have Q:IntKind.i64.wrap (b+v)=b+v:=by rw[IntKind.wrap];simp[IntKind.bits,IntKind.signed];omega
   clear l m n es B C;by_cases y:b+v< -1099511627776
   ·have I:decide (b+v< -1099511627776)=true:=by simpa using y
    have e:Hid (o=none):=s.trans (if_neg (by omega));go_wp2_with fail;rw[e.out];exact aB (v:=.tuple #[.agg #[ae 0,ae 0,ag .empty,af none 0 0],.bool false]) (by simp[results,results246,go_sem,f,g,h,i];rfl) rfl (lq (dw k (by omega) _ _ _ _))
   ·have I:decide (b+v< -1099511627776)=false:=by simpa using y
    by_cases z:1099511627776<b+v
    ·have J:decide (1099511627776<b+v)=true:=by simpa using z
     have e:Hid (o=none):=s.trans (if_neg (by omega));go_wp2_with fail;rw[e.out];exact aB (v:=.tuple #[.agg #[ae 0,ae 0,ag .empty,af none 0 0],.bool false]) (by simp[results,results246,go_sem,f,g,h,i];rfl) rfl (lq (dw k (by omega) _ _ _ _))
    ·have J:decide (1099511627776<b+v)=false:=by simpa using z
     have e:Hid (o=some (cv 1 (b+v) N)):=s.trans (if_pos (by omega));go_wp2_with fail;rw[e.out];exact aB (v:=.tuple #[.agg #[ae 1,ae (b+v),ag .empty,af none 0 0],.bool true]) (by simp[results,results246,go_sem,f,g,h,i];rfl) rfl (zx (dw k (by omega) _ _ _ _) 1 (b+v) (by simp[dm]) ⟨by omega,by omega⟩)
def xm{n N:Nat}(f:Tm n->Option (Tm N))(p:List (Tm n)):List (Tm N):=p.map λy=>(f y).getD (bi N 0 ())
def Om{n N:Nat}(f:Tm n->Option (Tm N))(p:List (Tm n))(k:Nat):Prop:=∀(i:Nat)(y:Tm n),i<k->p[i]?=some y->(f y).isSome=true
theorem Mn{f:Tm n->Option (Tm N)}{p:List (Tm n)}(c:Om f p k)(h:p.length<=k):cY f p=some (xm f p):=by
 refine xW f _ p λb e=>?_;obtain⟨g,a⟩:=dh e;have i:=(aZ.1 a).1;have:=c g b (by omega) a;cases d:f b with
 | none=>rw[d]at this;cases this
 | some j=>rfl
theorem Om.next{f:Tm n->Option (Tm N)}{p:List (Tm n)}{x:Tm n}(d:Om f p k)(g:p[k]?=some x)(e:true=(f x).isSome):Om f p (k+1):=by
 intro b h i a;by_cases c:b=k
 ·subst c;rw[g]at a;obtain rfl:=aG a;exact e.symm
 ·exact d b h (by omega) a
theorem N8{f:Tm n->Option (Tm N)}{p:List (Tm n)}{x:Tm n}(d:p[k]?=some x)(c:true=(f x).isSome):∃a,(xm f p)[k]?=some a/\f x=some a:=by
 cases b:f x with
 | none=>rw[b]at c;cases c
 | some a=>exact⟨a,by simp[xm,d,b],rfl⟩
theorem JC{P:List (Tm N)}{l:List (Tm N)}(j:vm N P len g k l wr)(v:P.length=len)(p:k=len)(n:ap w wr)(x:len<=8)(q:Nat)(r:w.heap.size<=q)(y:q<g)(v0 v1 v2 v3:ax):kM (N+1) (some (dR N P)) w (.returned (.tuple #[.agg #[ae 4,ae 0,ag .empty,af (some ⟨g,0,none⟩) len len],.bool true])) (dj wr q 0 v0 v1 v2 v3):=by
 obtain⟨m,c,e,f⟩:=j;subst p;rw[bF (by omega)]at f;rw[iq,nL,eD]at c;refine⟨((4,0,.empty),(some ⟨g,0,none⟩,k),l),true,?_,dw n r _ _ _ _,?_,?_,rfl,λz t=>?_⟩
 ·simp only[dE,m]
 ·refine⟨⟨by simp[dm],by simp[dm],aK _,by simp only;omega,by unfold maxLen;simp only;omega⟩,am ⟨g,0,rfl,by rw[bI];exact c.lt.2,λh b a=>?_⟩⟩;obtain⟨i,u⟩:=e b (aR a);have o:=c.cells h ⟨N,b⟩ (by simp[a]);refine⟨ee.block (bv (by omega) _ _ _ _) ?_,?_⟩
  ·cases N with
   | zero=>exact i.elim
   | succ N=>
    rw[cw];exact o
  ·rw[bI];exact In.off (P:=λd=>g<d) (λd s=>bv (by omega) _ _ _ _) u i
 ·exact am ⟨g,0,rfl,by omega,λh b a=>(e b (aR a)).2.mono λd s=>by omega⟩
 ·obtain rfl:=aG t;exact dB rfl f
theorem Mo(f:Tm n->Option (Tm N))(p:List (Tm n)):(xm f p).length=p.length:=by simp[xm]
theorem vm.grow{P:List (Tm N)}{l:List (Tm N)}(e:vm N P len g k l w)(a:ap w w'):vm N P len g k l w':=by
 obtain⟨f,h,b,i⟩:=e;exact⟨f,h.below a,λd c=>⟨((b d c).1.below a).mono a.size,(b d c).2⟩,i⟩
theorem oM.block(d:oM q w)(c:w'.heap[q]?=w.heap[q]?)(j:w.heap.size<=w'.heap.size):oM q w':=by
 obtain⟨⟨e,f,g,h⟩,⟨f0,f1,f2,f3⟩,i⟩:=d;have a:=λo=>bL c o;have b:∀o,w'.frozen? ⟨q,o,none⟩=w.frozen? ⟨q,o,none⟩:=λo=>by simp[World.frozen?,c]
 exact⟨⟨(a 0).trans e,(a 1).trans f,(a 2).trans g,(a 3).trans h⟩,⟨(b 0).trans f0,(b 1).trans f1,(b 2).trans f2,(b 3).trans f3⟩,aY i j⟩
theorem vZ(a:w.grownBy w' none):ap w w':=⟨a.os,a.tape,a.output,a.size,λk b=>a.block k b (by simp)⟩
theorem zM(f:((w.alloc (.cells #[s0,s1] t1)).alloc (.cells #[ae 0,ae 0,ag .empty,af none 0 0] t2)).grownBy w' none):ap w w'/\(ai w' w.heap.size 0 s0/\ai w' w.heap.size 1 s1)/\oM (w.heap.size+1) w':=by
 have a:=vZ f;have g:=a.size;simp at g;have d:ap w ((w.alloc (.cells #[s0,s1] t1)).alloc (.cells #[ae 0,ae 0,ag .empty,af none 0 0] t2)):=(aT _ _).alloc (by simp) _;have e:=λo=>a.cell (p:=⟨w.heap.size,o,none⟩) (by simp;omega);have c:=λo=>a.cell (p:=⟨w.heap.size+1,o,none⟩) (by simp);have b:=λo=>a.frozen (p:=⟨w.heap.size+1,o,none⟩) (by simp)
 exact⟨d.trans (a.mono d.size),⟨(e 0).trans (by simp[go_sem]),(e 1).trans (by simp[go_sem])⟩,
  ⟨(c 0).trans (by simp[go_sem]),(c 1).trans (by simp[go_sem]),(c 2).trans (by simp[go_sem]),(c 3).trans (by simp[go_sem])⟩,⟨(b 0).trans (by simp[go_sem]),(b 1).trans (by simp[go_sem]),(b 2).trans (by simp[go_sem]),(b 3).trans (by simp[go_sem])⟩,by omega⟩
theorem Dw(m:Nat)(b:List (Tm m))(self:Int)(n:Nat)(ih:Hid (OI m b self n))(p:List (Tm n))(len:Nat)(W:Hid (p.length=len))(pa:aw)(pc:Nat)(a:aw)(c B:Nat)(w:ah)(a0:len<=8)(V:Hid (fT B w n p pa))(a2:Hid (∀y∈p,aJ ⟨n,y⟩))(aC:Hid (fT B w m b a))(H:B<=w.heap.size):au 247 #[.agg #[af a 4 c,ae self],af pa len pc] w (kM (m+n+1) ((cY (λy=>vl m b self n y) p).map (dR (m+n))) w):=by
 obtain⟨o,T⟩:∃o,o=(cY (λy=>vl m b self n y) p).map (dR (m+n)):=⟨_,rfl⟩;rw[<-T];have aq:=av T;clear T;obtain⟨a4,hit,aL,aM,aN⟩:=bR gL;go_enter func247,ntmps247;go_wp2_with (at_make;refine lL _ rfl _ _ 52 rfl _ 54 a4 _ 4 underlying52 hit aL aM _ _ _ _ len rfl rfl rfl rfl (by rw[aN];omega) (by unfold maxLen;omega) (ay _) ?_;intro h aH S;have t:=av (rY (m+n) (xm (λy=>vl m b self n y) p) len aH);have aV:=av (vZ S);have ax:=av (zM S);clear aH S hit aL aM aN);have es:((w.alloc (.cells #[af a 4 c,ae self] 313)).alloc (.cells #[ae 0,ae 0,ag ⟨#[]⟩,af none 0 0] 54)).heap.size=w.heap.size+1+1:=by simp
 rw[es]at t;clear es aV;obtain⟨aE,aF,D⟩:=ax.out
 have an:Hid (ap w h/\(ai h w.heap.size 0 (af a 4 c)/\ai h w.heap.size 1 (ae self))/\oM (w.heap.size+1) h/\Om (λy=>vl m b self n y) p 0/\∃l,vm (m+n) (xm (λy=>vl m b self n y) p) len (w.heap.size+1+1) 0 l h):=
  ⟨aE,aF,D,λs y bm _=>by omega,[],t.out⟩
 clear ax t aE aF D;go_wp2_with fail;go_loopw [16] (λs wr=>∃k:Nat,k<=len/\s=ae k/\Hid (ap w wr/\(wr.cell? ⟨w.heap.size,0,none⟩=some (af a 4 c)/\wr.cell? ⟨w.heap.size,1,none⟩=some (ae self))/\oM (w.heap.size+1) wr/\Om (λy=>vl m b self n y) p k/\∃l,vm (m+n) (xm (λy=>vl m b self n y) p) len (w.heap.size+1+1) k l wr)) (λs _=>len-(intOf s).toNat)
 case atStart=>exact⟨0,by omega,rfl,an.out⟩
 case round=>
  obtain⟨k,bn,rfl,ar⟩:=hrel;clear an;obtain⟨i,⟨Z,aa⟩,G,x,l,j⟩:Hid (ap w wr)/\(ai wr w.heap.size 0 (af a 4 c)/\ai wr w.heap.size 1 (ae self))/\Hid (oM (w.heap.size+1) wr)/\Hid (Om (λy=>vl m b self n y) p k)/\∃l,Hid (vm (m+n) (xm (λy=>vl m b self n y) p) len (w.heap.size+1+1) k l wr):=ar.out;clear ar;by_cases aG:k<len
  ·obtain⟨d,u⟩:∃d,p[k]?=some d:=⟨p[k]'(by rw[W.out];exact aG),aS _⟩;obtain⟨E,po,rfl,a1,aI⟩:∃E po,pa=some ⟨E,po,none⟩/\E<B/\∀(s:Nat)(y:Tm n),p[s]?=some y->ee w E (po+s*4) n y/\In B w n y:=by
    rcases V.out with P|P
    ·rw[P]at u;simp at u
    ·exact P
   obtain⟨I,J⟩:=aI k d u;have N:=av u;have aX:=av (a2.out d (aR u));replace I:=I.below (i.out.mono H) a1;replace J:=J.below (i.out.mono H);have Q:B<=wr.heap.size:=aD H i.out.size
   have F:Hid (∀h,ap wr h->au 231 #[.agg #[af a 4 c,ae self],dE n d] h (kM (m+n) (vl m b self n d) h)):=
    λh g=>ih.out d a c B h (J.below (g.mono Q)) aX.out ((aC.out.below (i.out.mono H)).below (g.mono Q)) (aD Q g.size)
   obtain⟨Y,U⟩:∃Y,Y=vl m b self n d:=⟨_,rfl⟩;rw[<-U]at F;have L:=av U;clear aI u V U J;cases n with
   | zero=>exact I.elim
   | succ n=>
   obtain⟨bb,bc,bd,be⟩:=I;have A:dE (n+1) d=.agg (bf d):=rfl;rw[A]at F;clear A;generalize d.2.2.length=br at*;have bo:(0:Int)<=(k:Int):=by omega
   have bp:(k:Int)<(len:Int):=by omega
   have bq:E<wr.heap.size:=by omega
   have aK:w.heap.size<wr.heap.size:=by have:=G.out.2.2;omega
   go_wp2_with fail;refine(F.out _ (aT _ _)).mono ?_;rintro bk e ⟨y,a6,rfl,q⟩;have r:Hid (ap wr e):=(aT _ _).trans (q.out.1.mono (by simp));have aA:Hid (ap w e):=i.out.trans (r.out.mono i.out.size);have O:=av (G.out.below r.out);replace Z:=(az r.out _ _ aK).trans Z;replace aa:=(az r.out _ _ aK).trans aa;have A:dE (m+(n+1)) y=.agg (bf y):=rfl;rw[A];clear F bb bc bd be G A;cases a6
   ·have K:Hid (o=none):=by
      have g:vl m b self (n+1) d=none:=by
       have:=q.out.2.2.2.1;rw[<-L.out];cases Y with
       | none=>rfl
       | some ab=>cases this
      show o=none;rw[aq.out,mR _ p k d N.out g];rfl
    obtain⟨⟨ad,aj,ak,al⟩,⟨f0,f1,f2,f3⟩,aP⟩:=O.out;clear q j x;go_wp2_with fail;rw[K.out];exact aB (v:=.tuple #[.agg #[ae 0,ae 0,ag .empty,af none 0 0],.bool false]) (by simp[results,results247,go_sem,ad,aj,ak,al,aP];rfl) rfl (lq ((dw aA.out (by omega) _ _ _ _).alloc (by rw[bI];omega) _))
   ·have R:true=(vl m b self (n+1) d).isSome:=by rw[<-L.out];exact q.out.2.2.2.1
    obtain⟨ab,D,aO⟩:=N8 (f:=λy=>vl m b self (n+1) y) N.out R;have ao:=av (x.out.next N.out R);have t:=av (j.out.step aG ab D r.out y q.out.2.1 (q.out.2.2.1.mono λaU X=>by have:=j.out.2.1.lt.2;simp at X;omega) (q.out.2.2.2.2 ab (by rw[L.out];exact aO)));have z:=av (j.out.2.1.below r.out);have M:Hid (ap w (jW e (w.heap.size+1+1) (k*4) (gK (m+(n+1)) y))):=by
     have g:=aA.out;exact⟨g.os,g.tape,g.output,aD g.size (cQ (bI _ _ _ _).symm),λaU X=>(bv (by omega) _ _ _ _).trans (g.block aU X)⟩
    have aW:Hid (∀o:Obj,ap w ((jW e (w.heap.size+1+1) (k*4) (gK (m+(n+1)) y)).alloc o)/\(((jW e (w.heap.size+1+1) (k*4) (gK (m+(n+1)) y)).alloc o).cell? ⟨w.heap.size,0,none⟩=some (af a 4 c)/\((jW e (w.heap.size+1+1) (k*4) (gK (m+(n+1)) y)).alloc o).cell? ⟨w.heap.size,1,none⟩=some (ae self))/\oM (w.heap.size+1) ((jW e (w.heap.size+1+1) (k*4) (gK (m+(n+1)) y)).alloc o)/\Om (λy=>vl m b self (n+1) y) p (k+1)/\∃l,vm (m+(n+1)) (xm (λy=>vl m b self (n+1) y) p) len (w.heap.size+1+1) (k+1) l ((jW e (w.heap.size+1+1) (k*4) (gK (m+(n+1)) y)).alloc o)):=by
     intro o;have C:Below (jW e (w.heap.size+1+1) (k*4) (gK (m+(n+1)) y)).heap.size (jW e (w.heap.size+1+1) (k*4) (gK (m+(n+1)) y)) ((jW e (w.heap.size+1+1) (k*4) (gK (m+(n+1)) y)).alloc o):=aT _ _;have a3:(jW e (w.heap.size+1+1) (k*4) (gK (m+(n+1)) y)).heap.size=e.heap.size:=bI _ _ _ _;have aZ:=z.out.lt.2;refine⟨M.out.trans (C.mono M.out.size),⟨?_,?_⟩,?_,ao.out,l++ [y],t.out.grow C⟩
     ·exact(az C _ _ (by omega)).trans ((bL (bv (by omega) _ _ _ _) _).trans Z)
     ·exact(az C _ _ (by omega)).trans ((bL (bv (by omega) _ _ _ _) _).trans aa)
     ·refine oM.below ?_ C;exact O.out.block (bv (by omega) _ _ _ _) (cQ a3.symm)
    obtain⟨am,aQ⟩:∃am,(l.map (λd=>(⟨m+(n+1),d⟩:An))++List.replicate (len-k) zA)[k]?=some am:=⟨_,aS (by simp[j.out.1];omega)⟩;obtain⟨bg,bh,bi,bj⟩:=z.out.cells k am aQ;have bl:=λa5=>z.out.free a5;have aZ:w.heap.size+1+1<e.heap.size:=z.out.lt.2;clear q j x r i t ao M z aQ O D aO R;go_wp2_with fail;go_roundw
    case rel=>exact⟨k+1,by omega,by go_num,aW.out _⟩
    case measure=>simp[intOf];omega
  ·obtain rfl:k=len:=by omega
   have K:Hid (o=some (dR (m+n) (xm (λy=>vl m b self n y) p))):=by
    show o=_;rw[aq.out,Mn x.out (by rw[W.out];exact ay _)];rfl
   have aY:=λa7 a8 a9 ba=>av (JC j.out (by rw[Mo];exact W.out) rfl i.out a0 (w.heap.size+1) (by omega) (by omega) a7 a8 a9 ba);obtain⟨⟨ad,aj,ak,al⟩,⟨f0,f1,f2,f3⟩,aP⟩:=G.out;clear x j i V aC;go_wp2_with fail;rw[K.out];exact aB (v:=.tuple #[.agg #[ae 4,ae 0,ag .empty,af (some ⟨w.heap.size+1+1,0,none⟩) k k],.bool true]) (by simp[results,results247,go_sem,ad,aj,ak,al];rfl) rfl (aY _ _ _ _).out
theorem Cw{P:aU}:(N n:Nat)->n<=N->(x:Tm n)->cE P n x->cE P N (bi N n x)
 | _,0,_,_,k=>k.elim
 | 0,n+1,h,_,_=>by omega
 | N+1,n+1,h,x,k=>by
  rcases k with k|⟨b,o,e,d,k⟩
  ·exact ak (by simp[bi,k])
  ·refine am ⟨b,o,e,d,λi y a=>?_⟩;simp only[bi,df]at a;obtain⟨c,f,rfl⟩:=cH.1 a;exact Cw N n (by omega) c (k i c f)
theorem Lf(N n:Nat)(x:Tm (n+1)):dE (N+1) (bi (N+1) (n+1) x)=dE (n+1) x:=by simp[dE,bi]
theorem Le(d:n<=N){x y:Tm (n+1)}(a:aJ ⟨n+1,x⟩)(b:aH (n+1) y (n+1) x=true):aH (N+1) (bi (N+1) (n+1) y) (N+1) (bi (N+1) (n+1) x)=true:=by
 have c:aJ ⟨n+1,y⟩:=aW.2 (by rw[jZ _ _ _ _ b];exact aW.1 a);exact bU _ _ _ _ _ _ (fQ (N+1) (n+1) (by omega) y c) (bU _ _ _ _ _ _ b (dD _ _ _ _ (fQ (N+1) (n+1) (by omega) x a)))
theorem JJ(b:n<=N){x y:Tm (n+1)}(f:aJ ⟨n+1,x⟩)(c:ap w w')(d:In w'.heap.size w' (n+1) y)(e:cE (λq=>w.heap.size<=q) (n+1) y)(g:aH (n+1) y (n+1) x=true)(r:Bool):kM (N+1) (if r then some (bi (N+1) (n+1) x)else none) w (.returned (.tuple #[.agg (bf y),.bool r])) w':=by
 refine⟨bi (N+1) (n+1) y,r,by rw[Lf];rfl,c,pO _ _ (by omega) _ _ _ d,Cw _ _ (by omega) _ e,by cases r<;>rfl,λh a=>?_⟩;cases r with
 | false=>cases a
 | true=>
  obtain rfl:=aG a;exact Le b f g
theorem xo{o:Option (Tm (N+1))}{y:Tm (N+1)}{r:Bool}(c:ap w w1)(k:w.heap.size<=q)(m:q<w1.heap.size)(e:ap w1 w2/\In w2.heap.size w2 (N+1) y/\cE (λq=>w1.heap.size<=q) (N+1) y/\r=o.isSome/\∀d,o=some d->aH (N+1) y (N+1) d=true)(v0 v1 v2 v3:ax):kM (N+1) o w (.returned (.tuple #[.agg (bf y),.bool r])) (dj w2 q 0 v0 v1 v2 v3):=by
 obtain⟨f,g,a,h,i⟩:=e;have l:=c.size;refine⟨y,r,rfl,dw (c.trans (f.mono l)) k _ _ _ _,?_,a.mono λb j=>by omega,h,i⟩;rw[bI];exact In.off (P:=λb=>w1.heap.size<=b) (λb j=>bv (by omega) _ _ _ _) a g
theorem xp(h:n<=N){x y:Tm (n+1)}{g:ah}(p:aJ ⟨n+1,x⟩)(e:ap w w1)(o:w.heap.size<=q)(s:q<w1.heap.size)(k:ap w1 w2/\In w2.heap.size w2 (n+1) y/\cE (λq=>w1.heap.size<=q) (n+1) y/\aH (n+1) y (n+1) x=true)(a:ap w2 g)(r:Bool)(v0 v1 v2 v3:ax):kM (N+1) (if r then some (bi (N+1) (n+1) x)else none) w (.returned (.tuple #[.agg (bf y),.bool r])) (dj g q 0 v0 v1 v2 v3):=by
 obtain⟨c,i,d,j⟩:=k;have f:=e.size;have l:=(e.trans (c.mono f)).trans (a.mono (aD f c.size));refine JJ h p (dw l o _ _ _ _) ?_ (d.mono λb m=>by omega) j r;rw[bI];exact In.off (P:=λb=>w1.heap.size<=b) (λb m=>bv (by omega) _ _ _ _) d ((i.below a).mono a.size)
theorem A3:ap w ((w.alloc (.cells #[s0,s1] t1)).alloc (.cells #[ae 0,ae 0,ag .empty,af none 0 0] t2))/\oM (w.heap.size+1) ((w.alloc (.cells #[s0,s1] t1)).alloc (.cells #[ae 0,ae 0,ag .empty,af none 0 0] t2)):=by
 have a:=zM (w:=w) (s0:=s0) (s1:=s1) (t1:=t1) (t2:=t2) (w':=(w.alloc (.cells #[s0,s1] t1)).alloc (.cells #[ae 0,ae 0,ag .empty,af none 0 0] t2)) (gR _ _);exact⟨a.1,a.2.2⟩
theorem A4(a:w1=(w.alloc (.cells #[s0,s1] t1)).alloc (.cells #[ae 0,ae 0,ag .empty,af none 0 0] t2)):ap w w1/\oM (w.heap.size+1) w1/\w1.cell? ⟨w.heap.size,0,none⟩=some s0/\w1.cell? ⟨w.heap.size,1,none⟩=some s1:=by
 subst a;have a:=zM (w:=w) (s0:=s0) (s1:=s1) (t1:=t1) (t2:=t2) (w':=(w.alloc (.cells #[s0,s1] t1)).alloc (.cells #[ae 0,ae 0,ag .empty,af none 0 0] t2)) (gR _ _);exact⟨a.1,a.2.2,a.2.1.1,a.2.1.2⟩
theorem Oa(N:Nat)(o:Option (Tm (N+1)))(a:aw)(c:Nat)(self:Int)(j:dm self)(pa:aw)(len:Nat)(pc:Nat)(w:ah)(d:Hid (∀w1,ap w w1->au 245 #[af pa len pc,ag qE,ae 0] w1 λe w'=>e=.returned (.bool true)/\w'=w1))(i:Hid (o=some (cv 3 self N))):au 239 #[.agg #[af a 4 c,ae self],af pa len pc] w (kM (N+1) o w):=by
 go_enter func239,ntmps239;go_wp2_with fail;refine(d _ A3.1).mono ?_;rintro e w1 ⟨rfl,g⟩;obtain⟨f,b,r,s⟩:=A4 g;have HB:=av f;have h:=av b;have p:w.heap.size<w1.heap.size:=by have:=b.2.2;omega
 clear g f b d;obtain⟨⟨k,l,m,n⟩,⟨f0,f1,f2,f3⟩,q⟩:=h;go_wp2_with fail;rw[i.out];exact aB (v:=.tuple #[.agg #[ae 3,ae self,ag .empty,af none 0 0],.bool true]) (by simp[results,results239,go_sem,k,l,m,n];rfl) rfl (zx (dw HB (by omega) _ _ _ _) 3 self (by simp[dm]) j)
theorem PC(N:Nat)(o:Option (Tm (N+1)))(a:aw)(c:Nat)(self:Int)(b po:Nat)(j k:Int)(l:aq)(xa:aw)(m xc:Nat)(y0 y1:Int)(y2:aq)(ya:aw)(yl yc:Nat)(pc:Nat)(w:ah)(p:Hid (∀w1,ap w w1->au 245 #[af (some ⟨b,po,none⟩) 3 pc,ag qE,ae 0] w1 λe w'=>e=.returned (.bool false)/\w'=w1))(D:Hid (∀w1,ap w w1->au 245 #[af (some ⟨b,po,none⟩) 3 pc,ag A6,ae 2] w1 λe w'=>e=.returned (.bool true)/\w'=w1))(f:b<w.heap.size)(G:w.cell? ⟨b,po+4,none⟩=some (ae j)/\w.cell? ⟨b,po+4+1,none⟩=some (ae k)/\w.cell? ⟨b,po+4+2,none⟩=some (ag l)/\w.cell? ⟨b,po+4+3,none⟩=some (af xa m xc))(H:w.cell? ⟨b,po+8,none⟩=some (ae y0)/\w.cell? ⟨b,po+8+1,none⟩=some (ae y1)/\w.cell? ⟨b,po+8+2,none⟩=some (ag y2)/\w.cell? ⟨b,po+8+3,none⟩=some (af ya yl yc))(E:Hid (∀w1,ap w w1->au 246 #[.agg #[af a 4 c,ae self],.agg #[ae j,ae k,ag l,af xa m xc],.agg #[ae y0,ae y1,ag y2,af ya yl yc]] w1 (kM (N+1) o w1))):au 239 #[.agg #[af a 4 c,ae self],af (some ⟨b,po,none⟩) 3 pc] w (kM (N+1) o w):=by
 go_enter func239,ntmps239;go_wp2_with fail;refine(p _ A3.1).mono ?_;rintro e w1 ⟨rfl,r⟩;obtain⟨q,i,Z,aa⟩:=A4 r;have HB:=av q;have n:=av i;have X:w.heap.size<w1.heap.size:=by have:=i.2.2;omega
 clear r q i p;have d:=az HB;obtain⟨s,t,u,x⟩:=G;obtain⟨y,z,A,B⟩:=H;replace s:=(d _ _ f).trans s;replace t:=(d _ _ f).trans t;replace u:=(d _ _ f).trans u;replace x:=(d _ _ f).trans x;replace y:=(d _ _ f).trans y;replace z:=(d _ _ f).trans z;replace A:=(d _ _ f).trans A;replace B:=(d _ _ f).trans B;clear d;go_wp2_with fail;refine(D _ HB).mono ?_;rintro e P ⟨rfl,rfl⟩;have W:b<P.heap.size:=aY f HB.size;have U:¬(w.heap.size+1=b):=by omega
 have V:¬(b=w.heap.size+1):=by omega
 have I:∀h:Tm (N+1),dE (N+1) h=.agg (bf h):=λ_=>rfl;go_wp2_with fail
 go_region_held3 (λw'=>w'.cell? ⟨w.heap.size,0,none⟩=some (af a 4 c)/\w'.cell? ⟨w.heap.size,1,none⟩=some (ae self)/\w'.cell? ⟨b,po+4,none⟩=some (ae j)/\w'.cell? ⟨b,po+4+1,none⟩=some (ae k)/\w'.cell? ⟨b,po+4+2,none⟩=some (ag l)/\w'.cell? ⟨b,po+4+3,none⟩=some (af xa m xc)
     /\w'.cell? ⟨b,po+8,none⟩=some (ae y0)/\w'.cell? ⟨b,po+8+1,none⟩=some (ae y1)/\w'.cell? ⟨b,po+8+2,none⟩=some (ag y2)/\w'.cell? ⟨b,po+8+3,none⟩=some (af ya yl yc))
  (go_keep) ((go_at_call 246;refine(E _ HB.drew).mono ?_;rintro e ab ⟨h,J,rfl,g⟩;rw[I];have d:=az (dc g.1);have C:=av (n.below (dc g.1));obtain⟨⟨Q,R,S,T⟩,⟨f0,f1,f2,f3⟩,Y⟩:=C))
 have F:=λK L M O=>av (xo HB.drew (kt _ 1) n.2.2 g K L M O);clear g d;go_wp2_with fail;exact aB (v:=.tuple #[.agg (bf h),.bool J]) (by simp[results,results239,go_sem,Q,R,S,T]) rfl (F _ _ _ _)
theorem PD(N:Nat)(o:Option (Tm (N+1)))(a:aw)(c:Nat)(self:Int)(b po:Nat)(n:Nat)(L:n<=N)(x:Tm (n+1))(cl:Bool)(pc:Nat)(w:ah)(l:Hid (∀w1,ap w w1->au 245 #[af (some ⟨b,po,none⟩) 2 pc,ag qE,ae 0] w1 λe w'=>e=.returned (.bool false)/\w'=w1))(C:Hid (∀w1,ap w w1->au 245 #[af (some ⟨b,po,none⟩) 2 pc,ag A6,ae 2] w1 λe w'=>e=.returned (.bool false)/\w'=w1))(D:Hid (∀w1,ap w w1->au 245 #[af (some ⟨b,po,none⟩) 2 pc,ag DC,ae 1] w1 λe w'=>e=.returned (.bool true)/\w'=w1))(f:b<w.heap.size)(M:ee w b (po+4) (n+1) x)(H:Hid (aJ ⟨n+1,x⟩))(G:Hid (∀w1,ap w w1->au 91 #[.agg (bf x)] w1 λe w'=>∃y:Tm (n+1),e=.returned (dE (n+1) y)/\Hid (ap w1 w'/\In w'.heap.size w' (n+1) y/\cE (λq=>w1.heap.size<=q) (n+1) y/\aH (n+1) y (n+1) x=true)))(E:Hid (∀w1,ap w w1->au 132 #[.agg (bf x)] w1 λe w'=>e=.returned (.bool cl)/\ap w1 w'))(F:Hid (o=if cl then some (bi (N+1) (n+1) x)else none)):au 239 #[.agg #[af a 4 c,ae self],af (some ⟨b,po,none⟩) 2 pc] w (kM (N+1) o w):=by
 go_enter func239,ntmps239;go_wp2_with fail;refine(l _ A3.1).mono ?_;rintro e w1 ⟨rfl,p⟩;obtain⟨m,i,ai,aj⟩:=A4 p;have HB:=av m;have k:=av i;have ab:w.heap.size<w1.heap.size:=by have:=i.2.2;omega
 clear p m i l;have d:=az HB;obtain⟨t,u,z,A⟩:=M;replace t:=(d _ _ f).trans t;replace u:=(d _ _ f).trans u;replace z:=(d _ _ f).trans z;replace A:=(d _ _ f).trans A;clear d;generalize x.2.2.length=S at*;go_wp2_with fail;refine(C _ HB).mono ?_;rintro e r ⟨rfl,rfl⟩;go_wp2_with fail;refine(D _ HB).mono ?_;rintro e r ⟨rfl,rfl⟩;have Z:b<r.heap.size:=aY f HB.size;have X:¬(w.heap.size+1=b):=by omega
 have Y:¬(b=w.heap.size+1):=by omega
 have J:∀y:Tm (n+1),dE (n+1) y=.agg (bf y):=λ_=>rfl;go_wp2_with fail
 go_region_held3 (λw'=>w'.cell? ⟨b,po+4,none⟩=some (ae x.1.1)/\w'.cell? ⟨b,po+4+1,none⟩=some (ae x.1.2.1)/\w'.cell? ⟨b,po+4+2,none⟩=some (ag x.1.2.2)/\w'.cell? ⟨b,po+4+3,none⟩=some (af x.2.1.1 S x.2.1.2))
  (go_keep) ((first|(go_at_call 91;refine(G _ HB.drew).mono ?_;rintro e s ⟨y,rfl,g⟩;rw[J];have d:=az (dc g.1);have j:Hid (ap w s):=(HB.drew).trans (g.1.mono HB.size))|(go_at_call 132;refine(E _ j).mono ?_;rintro e ak ⟨rfl,h⟩;have K:=az h;have aa:b<s.heap.size:=aY f j.size;have B:=av ((k.below (dc g.1)).below h);obtain⟨⟨T,U,V,W⟩,⟨f0,f1,f2,f3⟩,ad⟩:=B)))
 have I:=λO P Q R=>av (xp L H HB.drew (kt _ 1) k.2.2 g h cl O P Q R);clear g d K h;go_wp2_with fail;rw[F.out];exact aB (v:=.tuple #[.agg (bf y),.bool cl]) (by simp[results,results239,go_sem,T,U,V,W]) rfl (I _ _ _ _)
theorem N9(N:Nat)(o:Option (Tm (N+1)))(a:aw)(c:Nat)(self:Int)(pa:aw)(len:Nat)(pc:Nat)(w:ah)(h:Hid (∀w1,ap w w1->au 245 #[af pa len pc,ag qE,ae 0] w1 λe w'=>e=.returned (.bool false)/\w'=w1))(i:Hid (∀w1,ap w w1->au 245 #[af pa len pc,ag A6,ae 2] w1 λe w'=>e=.returned (.bool false)/\w'=w1))(j:Hid (∀w1,ap w w1->au 245 #[af pa len pc,ag DC,ae 1] w1 λe w'=>e=.returned (.bool false)/\w'=w1))(k:Hid (∀w1,ap w w1->au 247 #[.agg #[af a 4 c,ae self],af pa len pc] w1 (kM (N+1) o w1))):au 239 #[.agg #[af a 4 c,ae self],af pa len pc] w (kM (N+1) o w):=by
 go_enter func239,ntmps239;go_wp2_with fail;refine(h _ A3.1).mono ?_;rintro e w1 ⟨rfl,n⟩;obtain⟨m,d,F,G⟩:=A4 n;have HB:=av m;have g:=av d;have D:w.heap.size<w1.heap.size:=by have:=d.2.2;omega
 clear n m d h;go_wp2_with fail;refine(i _ HB).mono ?_;rintro e y ⟨rfl,rfl⟩;go_wp2_with fail;refine(j _ HB).mono ?_;rintro e y ⟨rfl,rfl⟩;go_wp2_with fail;refine(k _ HB).mono ?_;rintro e H ⟨f,r,rfl,b⟩;have p:=av (g.below b.1);have q:=λs t u x=>av (xo HB (kt _ 1) g.2.2 b s t u x);obtain⟨⟨z,A,B,C⟩,⟨f0,f1,f2,f3⟩,E⟩:=p;have l:dE (N+1) f=.agg (bf f):=rfl;rw[l];clear b k i j l;go_wp2_with fail;exact aB (v:=.tuple #[.agg (bf f),.bool r]) (by simp[results,results239,go_sem,z,A,B,C]) rfl (q _ _ _ _)
theorem iG(w:ah)(s0 s1 a b c d:ax)(t1 t2 t3:TypeId):ap w (((w.alloc (.cells #[s0,s1] t1)).alloc (.cells #[a,b,c,d] t2)).alloc (.cells #[ae 0,ae 0,ag .empty,af none 0 0] t3))/\ oM (w.heap.size+1+1) (((w.alloc (.cells #[s0,s1] t1)).alloc (.cells #[a,b,c,d] t2)).alloc (.cells #[ae 0,ae 0,ag .empty,af none 0 0] t3)):=by
 refine⟨(((aE _ _).alloc (ay _) _).alloc (by simp) _).alloc (by simp;omega) _,⟨?_,?_,?_,?_⟩,⟨?_,?_,?_,?_⟩,?_⟩<;>simp[go_sem]
theorem Nb{W:ah}(a:(((w.alloc (.cells #[s0,s1] t1)).alloc (.cells #[f,i,j,l] t2)).alloc (.cells #[ae 0,ae 0,ag .empty,af none 0 0] t3)).alloc (.cells #[y0,y1,y2,u] t4)=W):ap w W/\oM (w.heap.size+1+1) W/\ (W.cell? ⟨w.heap.size+1+1+1,0,none⟩=some y0/\W.cell? ⟨w.heap.size+1+1+1,1,none⟩=some y1/\W.cell? ⟨w.heap.size+1+1+1,2,none⟩=some y2/\W.cell? ⟨w.heap.size+1+1+1,3,none⟩=some u)/\w.heap.size+1+1+1<W.heap.size:=by
 subst a;refine⟨nY _ _ _ _ _,⟨⟨?_,?_,?_,?_⟩,⟨?_,?_,?_,?_⟩,?_⟩,⟨?_,?_,?_,?_⟩,?_⟩<;>simp[go_sem]
theorem Qf(N:Nat)(o:Option (Tm (N+1)))(a:aw)(d:Int)(e:aq)(xa:aw)(f xc:Nat)(c:Nat)(self:Int)(w:ah)(b:Hid (o=none)):au 231 #[.agg #[af a 4 c,ae self],.agg #[ae 6,ae d,ag e,af xa f xc]] w (kM (N+1) o w):=by
 go_enter func231,ntmps231;go_wp2_with fail;rw[b.out];exact aB (v:=.tuple #[.agg #[ae 0,ae 0,ag .empty,af none 0 0],.bool false]) (by simp[results,results231,go_sem];rfl) rfl (lq (iG w _ _ _ _ _ _ _ _ _).1)
theorem Qg(N:Nat)(o:Option (Tm (N+1)))(a:aw)(p:Int)(q:aq)(xa:aw)(g xc:Nat)(c:Nat)(self:Int)(w:ah)(e:Hid (∀w1,ap w w1->au 239 #[.agg #[af a 4 c,ae self],af xa g xc] w1 (kM (N+1) o w1))):au 231 #[.agg #[af a 4 c,ae self],.agg #[ae 4,ae p,ag q,af xa g xc]] w (kM (N+1) o w):=by
 go_enter func231,ntmps231;go_wp2_with fail;refine(e _ (iG w _ _ _ _ _ _ _ _ _).1).mono ?_;rintro x z ⟨d,j,rfl,b⟩;have h:=av ((iG w _ _ _ _ _ _ _ _ _).2.below b.1);have i:=λk l m n=>av (xo (iG w _ _ _ _ _ _ _ _ _).1 (kt w.heap.size 2) (iG w _ _ _ _ _ _ _ _ _).2.2.2 b k l m n);obtain⟨⟨r,s,t,u⟩,⟨f0,f1,f2,f3⟩,y⟩:=h;have f:dE (N+1) d=.agg (bf d):=rfl;rw[f];clear b e f;go_wp2_with fail;exact aB (v:=.tuple #[.agg (bf d),.bool j]) (by simp[results,results231,go_sem,r,s,t,u]) rfl (i _ _ _ _)
theorem Py(N:Nat)(o:Option (Tm (N+1)))(a:aw)(b:Int)(h:Int)(i:aq)(xa:aw)(j xc:Nat)(n:Nat)(r:n<=N)(x:Tm (n+1))(c:Nat)(self:Int)(w:ah)(E:¬b=4)(F:¬b=5)(G:¬b=6)(m:Hid (aJ ⟨n+1,x⟩))(f:Hid (∀w1,ap w w1->au 91 #[.agg #[ae b,ae h,ag i,af xa j xc]] w1 λe w'=>∃y:Tm (n+1),e=.returned (dE (n+1) y)/\Hid (ap w1 w'/\In w'.heap.size w' (n+1) y/\cE (λq=>w1.heap.size<=q) (n+1) y/\aH (n+1) y (n+1) x=true)))(l:Hid (o=some (bi (N+1) (n+1) x))):au 231 #[.agg #[af a 4 c,ae self],.agg #[ae b,ae h,ag i,af xa j xc]] w (kM (N+1) o w):=by
 go_enter func231,ntmps231;go_wp2_with fail;refine(f _ (iG w _ _ _ _ _ _ _ _ _).1).mono ?_;rintro e I ⟨y,rfl,d⟩;have k:=av ((iG w _ _ _ _ _ _ _ _ _).2.below d.1);have p:=λs t u z=>av (xp r m (iG w _ _ _ _ _ _ _ _ _).1 (kt w.heap.size 2) (iG w _ _ _ _ _ _ _ _ _).2.2.2 d (aE _ _) true s t u z);obtain⟨⟨A,B,C,D⟩,⟨f0,f1,f2,f3⟩,H⟩:=k;have g:dE (n+1) y=.agg (bf y):=rfl;rw[g];clear d f g;go_wp2_with fail;rw[l.out];exact aB (v:=.tuple #[.agg (bf y),.bool true]) (by simp[results,results231,go_sem,A,B,C,D]) rfl (p _ _ _ _)
theorem Qh(N:Nat)(o:Option (Tm (N+1)))(b bo:Nat)(k:Nat)(l:Int)(M:aq)(xa:aw)(Q xc:Nat)(n:Nat)(E:n<=N)(x:Tm (n+1))(c:Nat)(self:Int)(w:ah)(A:l=(k:Int))(ak:k<4)(aj:b<w.heap.size)(F:ee w b (bo+k*4) (n+1) x)(t:Hid (aJ ⟨n+1,x⟩))(s:Hid (∀w1,ap w w1->au 91 #[.agg (bf x)] w1 λe w'=>∃y:Tm (n+1),e=.returned (dE (n+1) y)/\Hid (ap w1 w'/\In w'.heap.size w' (n+1) y/\cE (λq=>w1.heap.size<=q) (n+1) y/\aH (n+1) y (n+1) x=true)))(p:Hid (∀w1,au 234 #[.agg (bf x)] w1 λe w'=>e=.returned (.bool (!(x.1.1==6)))/\ap w1 w'))(r:Hid (o=if (!(x.1.1==6))=true then some (bi (N+1) (n+1) x)else none)):au 231 #[.agg #[af (some ⟨b,bo,none⟩) 4 c,ae self],.agg #[ae 5,ae l,ag M,af xa Q xc]] w (kM (N+1) o w):=by
 go_enter func231,ntmps231;obtain⟨K,L,O,P⟩:=F;subst A;generalize x.2.2.length=R at*;generalize (!(x.1.1==6))=cl at*;have al:(0:Int)<=(k:Int):=by omega
 have am:(k:Int)<4:=by omega
 have ad:b<w.heap.size+1:=by omega
 have ai:b<w.heap.size+1+1:=by omega
 go_wp2_with fail;generalize i:World.alloc (World.alloc (World.alloc (World.alloc w _) _) _) _=X;obtain⟨g,h,⟨Y,Z,aa,ab⟩,B⟩:=Nb i;have HB:=av g;have f:=av h;clear i g h K L O P;have z:∀y:Tm (n+1),dE (n+1) y=.agg (bf y):=λ_=>rfl
 go_region_held3 (λw'=>w'.cell? ⟨w.heap.size+1+1+1,0,none⟩=some (ae x.1.1)/\w'.cell? ⟨w.heap.size+1+1+1,1,none⟩=some (ae x.1.2.1)/\w'.cell? ⟨w.heap.size+1+1+1,2,none⟩=some (ag x.1.2.2)/\w'.cell? ⟨w.heap.size+1+1+1,3,none⟩=some (af x.2.1.1 R x.2.1.2))
  (go_keep) ((first|(go_at_call 91;refine(s _ HB.drew).mono ?_;rintro e j ⟨y,rfl,a⟩;rw[z];have C:=az (dc a.1);have W:Hid (ap w j):=(HB.drew).trans (a.1.mono HB.size);have an:w.heap.size+1+1+1<j.heap.size:=aY B a.1.size)|(go_at_call 234;refine(p _).mono ?_;rintro e ar ⟨rfl,d⟩;have D:=az d;have m:=av ((f.below (dc a.1)).below d);obtain⟨⟨S,T,U,V⟩,⟨f0,f1,f2,f3⟩,ao⟩:=m)))
 have u:=λG H I J=>av (xp E t HB.drew (kt w.heap.size 2) f.2.2 a d cl G H I J);clear a C D d;go_wp2_with fail;rw[r.out];exact aB (v:=.tuple #[.agg (bf y),.bool cl]) (by simp[results,results231,go_sem,S,T,U,V]) rfl (u _ _ _ _)
def xP(m n:Nat)(self:Int)(f:Tm n->Option (Tm (m+n)))(p:List (Tm n)):Option (Tm (m+n+1)):=
 if uX n p qE 0 then some (cv 3 self (m+n))
 else if uX n p A6 2 then (p[1]?).bind λa=>(p[2]?).bind λc=>(f a).bind λa=>(f c).bind λc=>uP (m+n) a c
 else if uX n p DC 1 then (p[1]?).bind λa=>if aV n a then some (bi (m+n+1) n a)else none
 else (cY f p).map (dR (m+n))
theorem Ms(m:Nat)(b:List (Tm m))(self:Int)(n:Nat)(x:Tm (n+1))(a:x.1.1=4):vl m b self (n+1) x=xP m n self (λy=>vl m b self n y) x.2.2:=by simp[vl,a,xP]
theorem Mr(m:Nat)(b:List (Tm m))(self:Int)(n:Nat)(x:Tm (n+1))(a:x.1.1=6):vl m b self (n+1) x=none:=by simp[vl,a]
theorem GQ(m:Nat)(b:List (Tm m))(self:Int)(n:Nat)(x:Tm (n+1))(a:x.1.1≠4)(c:x.1.1≠5)(d:x.1.1≠6):vl m b self (n+1) x=some (bi (m+n+1) (n+1) x):=by simp[vl,a,c,d]
theorem PB(m:Nat)(b:List (Tm m))(self:Int)(n:Nat)(x:Tm (n+1))(y:Tm m)(k:Nat)(a:x.1.1=5)(c:x.1.2.1=(k:Int))(d:b[k]?=some y):vl m b self (n+1) x=if cg ⟨m,y⟩=6 then none else some (bi (m+n+1) m y):=by
 simp[vl,a,c,d]
theorem Cq{p:List (Tm n)}(a:uX n p s k=true):p.length=1+k:=by
 by_cases b:p.length=1+k
 ·exact b
 ·rw[Gs b]at a;cases a
theorem Lg{o:Option (Tm N)}(d:∀a,o=some a->aJ ⟨N,a⟩):PQ o:=by
 intro a g e;have c:=d a g;cases N with
 | zero=>exact(dF c).elim
 | succ N=>
  have b:=c (bP N a) (by simp[aF,bP]);have f:a.1.1=1:=e;simp only[cJ,bP,f,qW,aO,cB]at b;exact⟨iv b.1.2.1,iv b.1.2.2⟩
theorem FM(m:Nat)(b:List (Tm m))(self:Int)(O:gF m b=true)(N:1<=self/\self<=99)(n:Nat)(ih:OI m b self n)(p:List (Tm n))(pa:aw)(pc:Nat)(a:aw)(c B:Nat)(w:ah)(L:p.length<=8)(g:fT B w n p pa)(v:∀y∈p,aJ ⟨n,y⟩)(C:fT B w m b a)(f:B<=w.heap.size):au 239 #[.agg #[af a 4 c,ae self],af pa p.length pc] w (kM (m+n+1) (xP m n self (λy=>vl m b self n y) p) w):=by
 have D:=λW k (Q:k<=8) h (e:ap w h)=>EF n p pa pc B W k h (g.below (e.mono f)) L Q;have j:=D qE 0 (by omega);have o:=D A6 2 (by omega);have r:=D DC 1 (by omega);have K:∀y∈b,aJ ⟨m,y⟩:=λy i=>((iA O).2 y i).2.1;cases e1:uX n p qE 0
 ·rw[e1]at j;cases e2:uX n p A6 2
  ·rw[e2]at o;cases e3:uX n p DC 1
   ·rw[e3]at r;refine N9 (m+n) _ a c self pa p.length pc w j o r ?_;intro h e;have P:=Dw m b self n ih p p.length rfl pa pc a c B h L (g.below (e.mono f)) v (C.below (e.mono f)) (aD f e.size);simpa [xP,e1,e2,e3]using P
   ·rw[e3]at r;have s:=Cq e3;rcases g with g|⟨G,po,rfl,R,g⟩
    ·rw[g]at s;simp at s
    ·obtain⟨y,i⟩:∃y,p[1]?=some y:=⟨p[1]'(by omega),aS _⟩;obtain⟨u,x⟩:=g 1 y i;have t:=v y (aR i);have z:xP m n self (λy=>vl m b self n y) p=if aV n y=true then some (bi (m+n+1) n y)else none:=by simp[xP,e1,e2,e3,i]
     rw[z];cases n with
     | zero=>exact u.elim
     | succ n=>
     rw[show p.length=2 by omega]at j o r ⊢;refine PD (m+(n+1)) _ a c self G po n (by omega) y (aV (n+1) y) pc w j o r (by omega) (by simpa using u) t ?_ ?_ rfl
     ·intro h e;exact iB (n+1) y B h (x.below (e.mono f)) (aD f e.size) t
     ·intro h e;exact iZ (n+1) y B h (x.below (e.mono f)) (aD f e.size)
  ·rw[e2]at o;have s:=Cq e2;rcases g with g|⟨G,po,rfl,R,g⟩
   ·rw[g]at s;simp at s
   ·obtain⟨d,E⟩:∃d,p[1]?=some d:=⟨p[1]'(by omega),aS _⟩;obtain⟨y,i⟩:∃y,p[2]?=some y:=⟨p[2]'(by omega),aS _⟩;obtain⟨S,T⟩:=g 1 d E;obtain⟨u,x⟩:=g 2 y i;have M:=v d (aR E);have t:=v y (aR i);have z:xP m n self (λy=>vl m b self n y) p=xM (vl m b self n d) (vl m b self n y):=by simp[xP,e1,e2,E,i,xM]
    rw[z];have U:=Lg λJ F=>xn m b self N K n d M J F;have V:=Lg λJ F=>xn m b self N K n y t J F;cases n with
    | zero=>exact u.elim
    | succ n=>
    rw[show p.length=3 by omega]at j o ⊢;refine PC (m+(n+1)) _ a c self G po d.1.1 d.1.2.1 d.1.2.2 d.2.1.1 d.2.2.length d.2.1.2 y.1.1 y.1.2.1 y.1.2.2 y.2.1.1 y.2.2.length y.2.1.2 pc w j o (by omega) (by simpa [ee]using S) (by simpa [ee]using u) ?_;intro h e;refine L9 (m+(n+1)) _ _ U V a c self d.1.1 d.1.2.1 d.1.2.2 d.2.1.1 d.2.2.length d.2.1.2 y.1.1 y.1.2.1 y.1.2.2 y.2.1.1 y.2.2.length y.2.1.2 h ?_ ?_
    ·intro H q;refine ut (m+n) _ a c self d.1.1 d.1.2.1 d.1.2.2 d.2.1.1 d.2.2.length d.2.1.2 H ?_;intro I A;have l:=(e.trans ((q.trans (A.mono q.size)).mono e.size));exact ih d a c B I (T.below (l.mono f)) M (C.below (l.mono f)) (aD f l.size)
    ·intro H q;refine ut (m+n) _ a c self y.1.1 y.1.2.1 y.1.2.2 y.2.1.1 y.2.2.length y.2.1.2 H ?_;intro I A;have l:=(e.trans ((q.trans (A.mono q.size)).mono e.size));exact ih y a c B I (x.below (l.mono f)) t (C.below (l.mono f)) (aD f l.size)
 ·rw[e1]at j;exact Oa (m+n) _ a c self ⟨by omega,by omega⟩ pa p.length pc w j (by simp[Hid,xP,e1])
theorem JI(m:Nat)(b:List (Tm m))(self:Int)(z:gF m b=true)(J:1<=self/\self<=99)(n:Nat):OI m b self n:=by
 induction n with
 | zero=>intro a j c q p v;exact v.elim
 | succ n ih=>
  intro a j c q p v u h g;obtain⟨y,H⟩:=iA z;have t:=u (bP n a) (by simp[aF,bP]);have I:a.2.2.length<=8:=mZ (bP n a) t;by_cases s:a.1.1=6
  ·have f:=Qf (m+n) (vl m b self (n+1) a) j a.1.2.1 a.1.2.2 a.2.1.1 a.2.2.length a.2.1.2 c self p (Mr m b self n a s);rw[<-s]at f;exact f
  ·by_cases l:a.1.1=5
   ·have O:0<=a.1.2.1/\a.1.2.1<=3:=by
      have D:¬(5:Int)=1:=by decide
      have E:¬(5:Int)=2:=by decide
      have F:¬(5:Int)=3:=by decide
      have G:¬(5:Int)=4:=by decide
      simp only[cJ,bP,l,qW,aO,cB,D,E,F,G,if_false]at t;exact⟨iv t.1.2.1,iv t.1.2.2⟩
    obtain⟨k,A⟩:∃k:Nat,a.1.2.1=(k:Int):=⟨a.1.2.1.toNat,by omega⟩;obtain⟨d,o⟩:∃d,b[k]?=some d:=⟨b[k]'(by omega),aS _⟩;have w:=(H d (aR o)).2.1;have C:=PB m b self n a d k l A o;have M:=h;rcases h with h|⟨B,bo,rfl,N,h⟩
    ·rw[h]at y;simp at y
    ·obtain⟨K,L⟩:=h k d o;cases m with
     | zero=>exact(dF w).elim
     | succ m=>
     have f:=Qh (m+1+n) (vl (m+1) b self (n+1) a) B bo k a.1.2.1 a.1.2.2 a.2.1.1 a.2.2.length a.2.1.2 m (by omega) d c self p A (by omega) (by omega) K w
      (λi e=>iB (m+1) d q i (L.below (e.mono g)) (aD g e.size) w)
      (λi=>jR d.1.1 d.1.2.1 d.1.2.2 d.2.1.1 d.2.2.length d.2.1.2 i)
      (by
       show vl (m+1) b self (n+1) a=_;rw[C];by_cases x:d.1.1=6
       ·simp[cg,x]
       ·simp[cg,x])
     rw[<-l]at f;exact f
   ·by_cases r:a.1.1=4
    ·have f:=Qg (m+n) (vl m b self (n+1) a) j a.1.2.1 a.1.2.2 a.2.1.1 a.2.2.length a.2.1.2 c self p (by
       intro i e;rw[Ms m b self n a r]
       exact FM m b self z J n ih a.2.2 a.2.1.1 a.2.1.2 j c q i I (fT.below (e.mono g) v.2) (λd o=>br n a d u o) (h.below (e.mono g)) (aD g e.size))
     rw[<-r]at f;exact f
    ·exact Py (m+n) (vl m b self (n+1) a) j a.1.1 a.1.2.1 a.1.2.2 a.2.1.1 a.2.2.length a.2.1.2 n (by omega) a c self p r l s u
       (λi e=>iB (n+1) a q i (v.below (e.mono g)) (aD g e.size) u) (GQ m b self n a r l s)
end Go.Proofs.YthjclakhibnamaaGreatDoor
