/- Proved here: plain facts and contracts. No condition but what each names. -/
import Derived.Test.YthjclakhibnamaaGreatDoorD02
import Derived.Test.YthjclakhibnamaaGreatDoorD03
import Derived.Lib.AtoiAllCases
import Derived.Lib.ItoaLen
import Derived.Test.YthjclakhibnamaaGreatDoorCards
import Derived.Lib.LaidTab
import Derived.Stop.LaidErr
import Derived.Shelf.Vars
import Derived.Deep.AppendLies
import Derived.Deep.Light
import Derived.Handy
import Derived.Deep.RegionHeld3
import Derived.Deep.DrawnRows
import Derived.Laws.MakeOwn
namespace Go.Proofs.YthjclakhibnamaaGreatDoor
open Go.RowKit Go.Proofs.Tryz
set_option maxRecDepth 100000
set_option maxHeartbeats 1000000
def iI:aq:=⟨#[99,111,100,101]⟩
def jJ:aq:=⟨#[115,116,97,114,116]⟩
def sQ:aq:=⟨#[114,117,110]⟩
def sP:aq:=⟨#[100,101,108,105,118,101,114]⟩
def qH:aq:=⟨#[105,110,106,101,99,116]⟩
def oz:aq:=⟨#[115,104,111,119]⟩
def gA:aq:=⟨#[97,108,105,118,101]⟩
def iT(e:Int):List UInt8:=[101,114,114,111,114,32]++Lib.itoa e
def iD(wd:aq):Option (Nat×Nat):=
 if wd=gA then some (0,0)else if wd=jJ then some (0,1)else if wd=sQ then some (1,0)else if wd=oz then some (1,0)
 else if wd=iI then some (1,1)else if wd=qH then some (1,1)else if wd=sP then some (2,0)else none
def vO(s:aq):Option Int:=match Lib.atoiAll s.data.toList with
 | .ok v=>if (0<=v/\v<=99)/\Lib.itoa v=s.data.toList then some v else none
 | _=>none
def mi(a:aq):Bool:=match a.data.toList with
 | []=>false
 | c::_=>c !=35
theorem DV(a b:List UInt8):(⟨a.toArray⟩:aq)++ ⟨b.toArray⟩=⟨(a++b).toArray⟩:=by
 apply ByteArray.ext;simp
variable{a:Bool}{B L N base c e g k len m n o q size:Nat}{p r:Obj}{d h:Type}{t t1 t2 t3 t4:TypeId}{w w' w1 w2 wr:ah}{s:aq}{f i j l u s0 s1 v v0 v1 v2 v3 y0 y1 y2:az}{xs:dH}
theorem kI{l:List UInt8}(a:s.toList=l):s=⟨l.toArray⟩:=by
 rw[Lib.toList_data]at a;subst a;rfl
theorem Mk(c:UInt8)(k:UInt8):((c.toNat:Int) !=(k.toNat:Int))=(c !=k):=by
 by_cases d:c=k
 ·subst d;simp
 ·rw[(gU (a:=c) (b:=k)).2 d,gU];have:¬c.toNat=k.toNat:=λe=>d (UInt8.toNat_inj.1 e);omega
theorem Pg(s:aq)(w:ah):au 11 #[af s] w λe w'=>e=aw (.bool (mi s))/\w'=w:=by
 rcases s with⟨⟨l⟩⟩;cases l with
 | nil=>
  go_enter func11,ntmps11;go_wp2_with fail
  go_ret
  exact⟨rfl,rfl⟩
 | cons c l=>
  have a:(⟨⟨c::l⟩⟩:aq).toList.isEmpty=false:=by rw[Lib.toList_data];rfl
  have d:0<(⟨⟨c::l⟩⟩:aq).size:=Nat.zero_lt_succ _;have f:¬(⟨⟨c::l⟩⟩:aq).toList=[]:=by rw[Lib.toList_data];simp
  have g:(⟨⟨c::l⟩⟩:aq)[0]=c:=rfl;go_enter func11,ntmps11;go_wp2_with fail
  go_ret
  exact⟨congrArg (λb=>Ending.returned (.bool b)) (Mk c 35),rfl⟩
def P9(o:Option (Nat×Nat)):az:=match o with
 | some (a,b)=>ax #[ae a,ae b,.bool true]
 | none=>ax #[ae 0,ae 0,.bool false]
theorem Cf(s:aq)(w:ah):au 32 #[af s] w λe w'=>e=aw (P9 (iD s))/\w'=w:=by
 by_cases j:s=gA\/s=jJ\/s=sQ\/s=oz\/s=iI\/s=qH\/s=sP
 ·rcases j with rfl|rfl|rfl|rfl|rfl|rfl|rfl
  all_goals
   simp only[gA,jJ,sQ,oz,iI,qH,sP];go_enter func32,ntmps32;go_wp2_with fail
   go_ret3
   exact⟨rfl,rfl⟩
 ·simp only[not_or]at j;obtain⟨b,c,d,f,g,h,i⟩:=j;have e:iD s=none:=by
   unfold iD;rw[if_neg b,if_neg c,if_neg d,if_neg f,if_neg g,if_neg h,if_neg i]
  rw[e];have k:(s.toList==[97,108,105,118,101])=false:=dL.2 λa=>b (kI a);have l:(s.toList==[115,116,97,114,116])=false:=dL.2 λa=>c (kI a);have m:(s.toList==[114,117,110])=false:=dL.2 λa=>d (kI a);have n:(s.toList==[115,104,111,119])=false:=dL.2 λa=>f (kI a);have o:(s.toList==[99,111,100,101])=false:=dL.2 λa=>g (kI a);have p:(s.toList==[105,110,106,101,99,116])=false:=dL.2 λa=>h (kI a);have q:(s.toList==[100,101,108,105,118,101,114])=false:=dL.2 λa=>i (kI a);clear b c d f g h i;go_enter func32,ntmps32;go_wp2_with fail
  go_ret3
  exact⟨rfl,rfl⟩
def Qz(v:az):Prop:=v=.nilIface\/∃t p,v=.iface t p
def Cx(B:Nat)(w:ah):Prop:=xA B w/\∃(m:Int)(a b:az),(Qz a/\Qz b)/\∀W,Below B w W->W.cell? ⟨0,0,none⟩=some (ae m)/\W.cell? ⟨4,0,none⟩=some a/\W.cell? ⟨5,0,none⟩=some b
theorem Cx.on{B:Nat}{w W:ah}(e:Cx B w)(a:Below B w W):Cx B W:=by
 obtain⟨f,j,c,d,g,h⟩:=e;exact⟨f.on a,j,c,d,g,λb i=>h b (a.trans i)⟩
theorem sg(e:Int)(a:dn e)(c:Cx B w):au 10 #[ae e] w λr w'=>r=aw (af ⟨(iT e).toArray⟩)/\ap w w':=by
 have b:=av (jT e a.1 a.2 B w c.1);have g:=Lib.itoa_length_le e a.1 a.2;have h:¬9223372036854775807<6+(Lib.itoa e).length:=by omega
 go_enter func10,ntmps10;go_wp2_with fail;refine b.out.mono ?_;rintro r i ⟨rfl,d⟩;go_wp2_with fail
 go_ret
 exact⟨congrArg (λf=>Ending.returned (af f)) (DV [101,114,114,111,114,32] _),d⟩
def Qn(o:Option Int):az:=match o with
 | some v=>ax #[ae v,.bool true]
 | none=>ax #[ae 0,.bool false]
theorem Ka(s:aq)(c:s.size<=281474976710656)(g:Cx B w):au 49 #[af s] w λe w'=>(∃v,Lib.atoiAll s.data.toList=.ok v/\e=aw (ax #[ae v,.nilIface])/\ap w w')\/((∀v,Lib.atoiAll s.data.toList≠.ok v)/\∃(v:Int)(t:TypeId)(q:Nat),e=aw (ax #[ae v,.iface t (aE q)])/\ap w w'):=by
 obtain⟨_,m,d,f,⟨k,l⟩,j⟩:=g;obtain⟨_,h,i⟩:=j w (aG _ _);cases hr:Lib.atoiAll s.data.toList with
 | ok v=>
  refine(Tryz.strconv_Atoi_ok s (by omega) v hr w).mono ?_;rintro e w' ⟨rfl,a⟩;refine ak ⟨v,rfl,rfl,?_⟩;rcases a with rfl|⟨t,rfl⟩
  ·exact aG _ _
  ·exact Lib.bytesWorld_below _ _ _
 | «syntax»=>
  refine(Tryz.strconv_Atoi_syntax s c hr d w h k).mono ?_;rintro e w' ⟨q,rfl,_,_,a⟩;exact am ⟨(λv b=>by cases b),_,_,q,rfl,a⟩
 | range=>
  refine(Tryz.strconv_Atoi_range s c hr f w i l).mono ?_;rintro e w' ⟨q,rfl,_,_,a⟩;exact am ⟨(λv b=>by cases b),_,_,q,rfl,a⟩
theorem Pb(t:TypeId)(q:Nat)(w:ah):(binOp .neq 40 (.iface t (aE q)) .nilIface).run Tryz.prog w=.ok (.bool true) w:=by kernel_rfl
theorem KB(s:aq)(D:s.size<=281474976710656)(n:Cx B w)(A:B<=w.heap.size):au 34 #[af s] w λe w'=>e=aw (Qn (vO s))/\ap w w':=by
 have j:=av (Ka s D n);have k:Hid (∀a,-9223372036854775808<=a->a<=9223372036854775807->∀i,ap w i->au 22 #[ae a] i λe w'=>e=aw (af ⟨(Lib.itoa a).toArray⟩)/\ap i w'):=λa r u i C=>jT a r u B i (n.1.on (C.mono A));have l:=Pb;obtain⟨h,c⟩:∃h,vO s=h:=⟨_,rfl⟩;rw[c];clear n;go_enter func34,ntmps34;go_wp2_with fail;refine j.out.mono ?_;unfold vO at c;rintro e F (⟨a,g,rfl,f⟩|⟨g,a,t,E,rfl,f⟩)
 ·rw[g]at c;have HB:=av f;by_cases p:0<=a/\a<=99
  ·have r:¬a<0:=by omega
   have u:¬99<a:=by omega
   have m:=av (k.out a (by omega) (by omega) F f);obtain⟨d,o⟩:∃d:aq,⟨(Lib.itoa a).toArray⟩=d:=⟨_,rfl⟩;rw[o]at m;have x:Hid (h=if d=s then some a else none):=by
    have e:Lib.itoa a=s.data.toList ↔ d=s:=by
     rw[<-o];refine⟨λb=>by rw[b],λb=>by rw[<-b]⟩
    show h=_;rw[<-c];by_cases b:d=s
    ·rw[if_pos b];exact if_pos ⟨p,e.2 b⟩
    ·rw[if_neg b];exact if_neg λG=>b (e.1 G.2)
   clear f j k g c o p l;go_wp2_with fail;refine m.mono ?_;rintro e J ⟨rfl,y⟩;have v:=av (HB.trans (y.mono HB.size));clear y m HB;by_cases q:d=s
   ·subst q;obtain rfl:=x.out.trans (if_pos rfl);go_wp2_with fail
    go_ret2
    exact⟨rfl,v⟩
   ·obtain rfl:=x.out.trans (if_neg q);have H:(d.toList==s.toList)=false:=dL.2 λb=>q (by rw[kI b,<-kI (rfl:s.toList=s.toList)]);go_wp2_with fail
    go_ret2
    exact⟨rfl,v⟩
  ·obtain rfl:none=h:=(if_neg λb=>p b.1).symm.trans c;clear c k j l g f;by_cases r:a<0
   ·go_wp2_with fail
    go_ret2
    exact⟨rfl,HB⟩
   ·have u:99<a:=by omega
    go_wp2_with fail
    go_ret2
    exact⟨rfl,HB⟩
 ·obtain rfl:none=h:=by
    cases z:Lib.atoiAll s.data.toList with
    | ok a=>exact absurd z (g a)
    | _=>rw[z]at c;exact c
  have HB:=av f;have I:=l t E;clear c k j l g f;go_wp2_with fail
  go_ret2
  exact⟨rfl,HB⟩
theorem QO: Tryz.prog.globalNamed "internal/strconv.uint64pow10" = some 1 := by kernel_rfl
theorem KR:(Tryz.prog.globals[1]?).map (·.type)=some 159:=by kernel_rfl
theorem Kj:Tryz.prog.cellsOf 159=20:=by kernel_rfl
theorem Kk:Tryz.prog.cellsOf 115=1:=by kernel_rfl
theorem M2:(Rows.laid_internal_strconv_uint64pow10:DataW Unit)=Lib.tabData .u64 Lib.pow10Tab:=by kernel_rfl
theorem Dr: "*" ++ "errors.errorString" = "*errors.errorString" := by decide
theorem Pt(u : TypeId)(h : Tryz.prog.typeName? 3 u = some "*errors.errorString"): u = 261 :=
 typeName_ptr_named (nm := "errors.errorString") (by rw [Dr]; kernel_rfl) (by kernel_rfl) (by decide) u (by rw [Dr]; exact h)
theorem qA{n : String}{text : List UInt8}{r : List (String × DataW Unit)}{W : World}(h : laidMet Tryz.prog ((n, .iface "*errors.errorString" (.ptr (.agg [.lit (.string text)]))) :: r) W)(hg : Tryz.prog.globalNamed n = some g)(ht : (Tryz.prog.globals[g]?).map (·.type) = some 40): ∃ v, W.cell? ⟨g, 0, none⟩ = some v ∧ Qz v := by
 obtain⟨f,h,d,_⟩:=laid_sentinel b a c underlying40 Pt underlying261 underlying263 rfl rfl underlying9 (by kernel_rfl) (by kernel_rfl);exact⟨_,World.var?_cell a d 0,am ⟨_,_,rfl⟩⟩
theorem Pu{W:ah}(hL:laidMetH Tryz.prog Rows.deskHeadRow.laid W)(hS:W.ShapedOpen Tryz.prog):Cx W.heap.size W:=by
 have h1 : laidMet Tryz.prog [("math/bits.deBruijn32tab", Rows.laid_math_bits_deBruijn32tab), ("math/bits.deBruijn64tab", Rows.laid_math_bits_deBruijn64tab), ("internal/strconv.uint64pow10", Rows.laid_internal_strconv_uint64pow10), ("unicode/utf8.acceptRanges", Rows.laid_unicode_utf8_acceptRanges), ("strconv.ErrRange", Rows.laid_strconv_ErrRange), ("strconv.ErrSyntax", Rows.laid_strconv_ErrSyntax), ("unicode/utf8.first", Rows.laid_unicode_utf8_first)] W := hL
 have h2:=laidMet.tail (laidMet.tail h1);rw[M2]at h2;have h3:=Lib.tabIs_of_head QO KR underlying159 underlying115 Kk Kj h2;obtain⟨m,hm⟩:=cell_of_shapedOpen_int (g:=0) (t:=3) (zero:= #[ae 0]) (k:=.i64) hS (iw (by kernel_rfl)) (by kernel_rfl) (by kernel_rfl) (by kernel_rfl) (by kernel_rfl) underlying3;have h4:=laidMet.tail (laidMet.tail h2);obtain⟨e1,c1,k1⟩:=qA (g:=4) (laidMet.tail h4) (by kernel_rfl) (by kernel_rfl);obtain⟨e2,c2,k2⟩:=qA (g:=5) h4 (by kernel_rfl) (by kernel_rfl);exact⟨Lib.tabBelow_of_tabIs h3,m,e1,e2,⟨k1,k2⟩,λW2 hW=>⟨(hW.cell (p:=⟨0,0,none⟩) (lL _ _ hm)).trans hm,(hW.cell (p:=⟨4,0,none⟩) (lL _ _ c1)).trans c1,(hW.cell (p:=⟨5,0,none⟩) (lL _ _ c2)).trans c2⟩⟩
abbrev Nd:Type:=(Int×Int×aq)×(ay×Nat×Nat)
def wL(x:Nd):List az:=[ae x.1.1,ae x.1.2.1,af x.1.2.2,ag x.2.1 x.2.2.1 x.2.2.2]
def cN(l:List Nd):List az:=l.flatMap wL
def aH:(n:Nat)->Tm n->List Nd
 | 0,_=> [((0,0,.empty),(none,0,0))]
 | n+1,x=>(x.1,(x.2.1.1,x.2.2.length,x.2.1.2))::x.2.2.flatMap λy=>aH n y
def qy:(n:Nat)->Tm n->Int->List Int
 | 0,_,d=> [d]
 | n+1,x,d=>d::x.2.2.flatMap λy=>qy n y (d+1)
theorem Cb{c:Type}(f:d->List h)(g:d->List c)(b:∀a,(f a).length=(g a).length)(l:List d):(l.flatMap f).length=(l.flatMap g).length:=by
 induction l with
 | nil=>rfl
 | cons a l ih=>simp only[bL,bq,ih,b]
theorem kR:(n:Nat)->(x:Tm n)->(d:Int)->(qy n x d).length=(aH n x).length
 | 0,_,_=>rfl
 | n+1,x,d=>by
  simp only[qy,aH,bu];rw[Cb (λy=>qy n y (d+1)) (λy=>aH n y) (λy=>kR n y (d+1))]
theorem pd(l:List Nd):(cN l).length=l.length*4:=by
 induction l with
 | nil=>rfl
 | cons a l ih=>simp only[cN,bL,bq,bu]at ih ⊢;rw[ih];simp[wL];omega
theorem wM(l r:List Nd):cN (l++r)=cN l++cN r:=by simp[cN]
theorem uq(l:List Nd):∀b∈cN l,b.oneCell'=true:=by
 intro b a;simp only[cN,kp,wL]at a;obtain⟨c,_,a⟩:=a;simp at a;rcases a with rfl|rfl|rfl|rfl<;>rfl
theorem Jo(f:d->List h)(l:List d)(k:Nat)(x:d)(b:l[k]?=some x):(l.take (k+1)).flatMap f=(l.take k).flatMap f++f x:=by
 obtain⟨c,a⟩:=bi.1 b;rw[lF c,a];simp
theorem GN(f:d->List h)(l:List d)(k:Nat):((l.take k).flatMap f).length<=(l.flatMap f).length:=by
 conv=>rhs;rw[<-iM k l]
 rw[lC,bq];omega
theorem NJ(cs:Array az)(b:base<=w.heap.size)(a:cs.size=size):(w.alloc (.cells cs e)).ownsRow base e size (ag (some ⟨w.heap.size,0,none⟩) 1 1) 1 cs.toList:=
 ⟨by simp[a],.inr ⟨w.heap.size,1,cs,rfl,b,aK w _,aA _,by unfold maxLen;omega,by omega,by rw[bG];simp[a]⟩⟩
theorem dU(b:w.ownsRow base e size v n xs)(a:ap w w'):w'.ownsRow base e size v n xs:=
 b.kept (row:=none) ⟨a.os,a.tape,a.output,a.size,λk c _=>a.block k c⟩ (by cases v.ownBlock<;>simp)
theorem sF{b:Nat}(f:w.ownsRow base e size v n xs)(k:b<=base):w.ownsRow b e size v n xs:=by
 obtain⟨g,a⟩:=f;refine⟨g,?_⟩;rcases a with a|⟨d,cap,c,i,l,h,j⟩
 ·exact ak a
 ·exact am ⟨d,cap,c,i,by omega,h,j⟩
theorem gM:(Tryz.prog.info? 54).map (λi=>(i.zero,i.size,i.bytes))=some (some (.agg #[ae 0,ae 0,af .empty,ag none 0 0]),4,56):=by kernel_rfl
theorem Gq:(Tryz.prog.info? 3).map (λi=>(i.zero,i.size,i.bytes))=some (some (ae 0),1,8):=by kernel_rfl
def qX(n lo a:Int):Bool:=decide (lo<=n) && decide (n<=a)
def Av(c:UInt8):Bool:=decide (97<=(c.toNat:Int)) && decide ((c.toNat:Int)<=122)
def gD(l:List UInt8):Bool:=l.all Av
def ei(s:aq):Bool:=qX s.size 1 8 && gD s.data.toList
theorem bZ{b:Bool}(c:a=b):Ending.returned (.bool a)=aw (.bool b):=by rw[c]
theorem tO(s:aq)(k:Nat)(a:k<s.size):s.data.toList.take (k+1)=s.data.toList.take k++ [s[k]]:=by
 rw[lF (by simpa using a)];rfl
theorem wF(s:aq)(k:Nat)(a:k<s.size):gD (s.data.toList.take (k+1))=(gD (s.data.toList.take k) && Av s[k]):=by
 rw[tO s k a];simp[gD]
def sz:(n:Nat)->Tm n->Int
 | 0,_=>0
 | n+1,x=>if x.1.1=4 then 1+(x.2.2.map λy=>1+sz n y).sum else 0
theorem fI:(n:Nat)->(x:Tm n)->0<=sz n x/\sz n x+1<=2*((aH n x).length:Int)
 | 0,_=>⟨by simp[sz],by simp[sz,aH]⟩
 | n+1,x=>by
  have key:∀l:List (Tm n),0<=(l.map λy=>1+sz n y).sum/\(l.map λy=>1+sz n y).sum<=2*((l.flatMap λy=>aH n y).length:Int):=by
   intro l
   induction l with
   | nil=>exact⟨by simp,by simp⟩
   | cons y l ih=>
    have b:=fI n y;simp only[bA,dj,bL,bq];exact⟨by omega,by omega⟩
  have k:=key x.2.2;simp only[sz,aH,bu];by_cases a:x.1.1=4
  ·rw[if_pos a];exact⟨by omega,by omega⟩
  ·rw[if_neg a];exact⟨by omega,by omega⟩
def cM(x:Nd):Bool:=
 (if x.1.1=1 then x.1.2.2.toList.isEmpty && qX x.1.2.1 (-1099511627776) 1099511627776
  else if x.1.1=2 then ei x.1.2.2 && x.1.2.1==0
  else if x.1.1=3 then x.1.2.2.toList.isEmpty && qX x.1.2.1 1 99
  else if x.1.1=4 then x.1.2.2.toList.isEmpty && x.1.2.1==0 && decide ((x.2.2.1:Int)<=8)
  else if x.1.1=5 then x.1.2.2.toList.isEmpty && qX x.1.2.1 0 3
  else if x.1.1=6 then x.1.2.2.toList.isEmpty && x.1.2.1==0
  else false) && (x.1.1==4 || !decide ((0:Int)<(x.2.2.1:Int)))
def mH(x:Nd)(d m:Int):Int:=if x.1.1=4/\m<d+1 then d+1 else m
def uF(a:Int):List Nd->List Int->Int->Int
 | x::l,d::ds,m=>if cM x then uF a l ds (mH x d m)else 5
 | _,_,m=>if 12<m\/200<a then 2 else 0
def bK(n:Nat)(x:Tm n):Int:=uF (sz n x) (aH n x) (qy n x 0) 0
theorem jj(l:List Nd)(k:Nat)(x:Nd)(b:l[k]?=some x)(j:Nat)(e:j<4):(cN l)[k*4+j]?=(wL x)[j]? :=by
 induction l generalizing k with
 | nil=>simp at b
 | cons a l ih=>
  have c:cN (a::l)=wL a++cN l:=rfl;have d:(wL a).length=4:=rfl;rw[c];cases k with
  | zero=>
   have:a=x:=by simpa using b
   subst this;rw[dN (by omega)];simp
  | succ k=>
   rw[fq (by omega),d,<-ih k (by simpa using b)];congr 1;omega
theorem fE(g j:Nat):(⟨g,0,none⟩:Addr).add j=⟨g,j,none⟩:=by unfold Addr.add;split<;>simp_all
theorem E0{l:List Nd}(d:w.ownsRow base 54 4 (ag (some ⟨g,0,none⟩) L c) L (cN l))(k:Nat)(x:Nd)(b:l[k]?=some x):ai w g (k*4) (ae x.1.1)/\ai w g (k*4+1) (ae x.1.2.1)/\ai w g (k*4+2) (af x.1.2.2)/\ai w g (k*4+3) (ag x.2.1 x.2.2.1 x.2.2.2):=by
 have a:=d.cells (g:=g) rfl;refine⟨?_,?_,?_,?_⟩
 ·have:=a (k*4+0) (ae x.1.1) (by rw[jj l k x b 0 (by omega)];rfl);rw[fE]at this;exact this
 ·have:=a (k*4+1) (ae x.1.2.1) (by rw[jj l k x b 1 (by omega)];rfl);rw[fE]at this;exact this
 ·have:=a (k*4+2) (af x.1.2.2) (by rw[jj l k x b 2 (by omega)];rfl);rw[fE]at this;exact this
 ·have:=a (k*4+3) (ag x.2.1 x.2.2.1 x.2.2.2) (by rw[jj l k x b 3 (by omega)];rfl);rw[fE]at this;exact this
theorem Hj(x:Nd){d m:Int}(a:¬(x.1.1=4/\m<d+1)):mH x d m=m:=if_neg a
theorem ye(e:Int):(l:List Nd)->(a:List Int)->(m:Int)->l.length=a.length->uF e l a m=0->∀y∈l,cM y=true
 | [],_,_,_,_=>by simp
 | x::l,[],_,h,_=>by simp at h
 | x::l,d::a,m,h,h0=>by
  simp only[uF]at h0;by_cases b:cM x=true
  ·rw[if_pos b]at h0;intro y c;rcases cq.1 c with rfl|c
   ·exact b
   ·exact ye e l a _ (by simpa using h) h0 y c
  ·rw[if_neg b]at h0;cases h0
theorem mV(n:Nat)(x:Tm n)(a:bK n x=0):∀y∈aH n x,cM y=true:=
 ye _ _ _ _ (kR n x 0).symm a
theorem nu{x:Tm (n+1)}{y:Tm n}(b:y∈x.2.2){a:Nd}(c:a∈aH n y):a∈aH (n+1) x:=by
 simp only[aH,cq,kp];exact am ⟨y,b,c⟩
theorem lg(x:Nd)(a:cM x=true):x.1.1=1\/x.1.1=2\/x.1.1=3\/x.1.1=4\/x.1.1=5\/(x.1.1=6/\x.1.2.1=0):=by
 by_cases b:x.1.1=1
 ·exact ak b
 by_cases c:x.1.1=2
 ·exact am (ak c)
 by_cases d:x.1.1=3
 ·exact am (am (ak d))
 by_cases e:x.1.1=4
 ·exact am (am (am (ak e)))
 by_cases f:x.1.1=5
 ·exact am (am (am (am (ak f))))
 by_cases g:x.1.1=6
 ·refine am (am (am (am (am ⟨g,?_⟩))));unfold cM at a;rw[if_neg b,if_neg c,if_neg d,if_neg e,if_neg f,if_pos g]at a;simp only[aS,cT]at a;exact a.1.2
 ·unfold cM at a;rw[if_neg b,if_neg c,if_neg d,if_neg e,if_neg f,if_neg g]at a;cases a
def aN{c d:Type}(f:c->d->Bool):List c->List d->Bool
 | [],[]=>true
 | a::p,b::q=>f a b && aN f p q
 | _,_=>false
def aJ:(n:Nat)->Tm n->(m:Nat)->Tm m->Bool
 | n+1,x,m+1,y=>x.1.1==y.1.1 && x.1.2.1==y.1.2.1 && x.1.2.2.toList==y.1.2.2.toList && aN (λa b=>aJ n a m b) x.2.2 y.2.2
 | _,_,_,_=>false
theorem gd{b:Bool}(c:a=b):Ending.returned (.bool a)=aw (.bool b):=by rw[c]
theorem C9{c d:Type}(f:c->d->Bool):(p:List c)->(q:List d)->¬p.length=q.length->aN f p q=false
 | [],[],h=>by simp at h
 | [],_::_,_=>rfl
 | _::_,[],_=>rfl
 | a::p,b::q,h=>by
  simp only[aN];rw[C9 f p q (by simpa using h)];simp
theorem vH(x y:Int):(x<y/\oU x y=-1)\/(x=y/\oU x y=0)\/(y<x/\oU x y=1):=by
 unfold oU;by_cases a:x<y
 ·rw[if_pos a];exact ak ⟨a,rfl⟩
 ·rw[if_neg a];by_cases b:y<x
  ·rw[if_pos b];exact am (am ⟨b,rfl⟩)
  ·rw[if_neg b];exact am (ak ⟨by omega,rfl⟩)
theorem Kd:(x y:List UInt8)->Op.bytesLess x y=false->Op.bytesLess y x=false->x=y
 | [],[],_,_=>rfl
 | [],_::_,h,_=>by simp[Op.bytesLess]at h
 | _::_,[],_,h=>by simp[Op.bytesLess]at h
 | a::x,b::y,h,h'=>by
  simp only[Op.bytesLess,Bool.or_eq_false_iff,decide_eq_false_iff_not,Bool.and_eq_false_iff,dL]at h h';obtain⟨c,d⟩:=h;obtain⟨f,g⟩:=h';have e:a=b:=by
   rw[UInt8.lt_iff_toNat_lt]at c f;exact UInt8.toNat_inj.1 (by omega)
  subst e;rw[Kd x y (d.resolve_left (λn=>n rfl)) (g.resolve_left (λn=>n rfl))]
theorem yd(l:List UInt8):Op.bytesLess l l=false:=by
 induction l with
 | nil=>rfl
 | cons a l ih=>simp[Op.bytesLess,ih]
theorem Kp(x y:aq):(Op.bytesLess x.toList y.toList=true/\xB x y=-1)\/(x.toList=y.toList/\xB x y=0)\/(Op.bytesLess y.toList x.toList=true/\xB x y=1):=by
 unfold xB;cases h:Op.bytesLess x.toList y.toList
 ·by_cases a:x.toList=y.toList
  ·rw[a];simp
  ·have c:Op.bytesLess y.toList x.toList=true:=by
     cases h2:Op.bytesLess y.toList x.toList
     ·exact(a (Kd _ _ h h2)).elim
     ·rfl
   have b:(x.toList==y.toList)=false:=by simpa using a
   rw[b];simp[c]
 ·simp
theorem dG{x:Tm 0}(c:∀a∈aH 0 x,cM a=true):False:=by
 have:=c ((0,0,.empty),(none,0,0)) (by simp[aH]);rcases lg _ this with b|b|b|b|b|⟨b,_⟩<;>simp at b
theorem yN{h i:Type}(f:h->i->Int)(g:h->i->Bool):(p:List h)->(q:List i)->p.length=q.length->(∀a∈p,∀b∈q,(f a b=0 ↔ g a b=true))->(qs f p q=0 ↔ aN g p q=true)
 | [],[],_,_=>by simp[qs,aN]
 | [],_::_,e,_=>by simp at e
 | _::_,[],e,_=>by simp at e
 | a::p,b::q,e,H=>by
  have j:=H a (by simp) b (by simp);have m:=yN f g p q (by simpa using e) (λk n l o=>H k (by simp[n]) l (by simp[o]));simp only[qs,aN,aS];by_cases d:f a b=0
  ·rw[if_pos d,m];exact⟨λc=>⟨j.1 d,c⟩,λc=>c.2⟩
  ·rw[if_neg d];exact⟨λc=>(d c).elim,λc=>(d (j.2 c.1)).elim⟩
theorem eX(x:Nd)(b:cM x=true):(x.1.1≠2->x.1.2.2.toList=[])/\(x.1.1=2->x.1.2.1=0)/\(x.1.1=4->x.1.2.1=0)/\(x.1.1=6->x.1.2.1=0)/\(x.1.1≠4->x.2.2.1=0):=by
 have c:=lg x b;unfold cM at b;rcases c with a|a|a|a|a|⟨a,d⟩
 all_goals (rw[a]at b ⊢;simp at b ⊢;simp[b])
theorem CR:(n:Nat)->(x:Tm n)->(m:Nat)->(y:Tm m)->(∀a∈aH n x,cM a=true)->(∀a∈aH m y,cM a=true)->(yM n x m y=0 ↔ aJ n x m y=true)
 | 0,_,_,_,f,_=>(dG f).elim
 | _+1,_,0,_,_,f=>(dG f).elim
 | n+1,x,m+1,y,hx,hy=>by
  have l:=eX _ (hx (x.1,(x.2.1.1,x.2.2.length,x.2.1.2)) (by simp[aH]));have j:=eX _ (hy (y.1,(y.2.1.1,y.2.2.length,y.2.1.2)) (by simp[aH]));have B:=lg _ (hx (x.1,(x.2.1.1,x.2.2.length,x.2.1.2)) (by simp[aH]));have H:=λe=>yN (λa b=>yM n a m b) (λa b=>aJ n a m b) x.2.2 y.2.2 e (λa F b G=>CR n a m b (λd v=>hx d (nu F v)) (λd v=>hy d (nu G v)));simp only at l j B;simp only[yM,aJ];have E:=Kp x.1.2.2 y.1.2.2;have L:=vH x.1.2.1 y.1.2.1;have M:=vH x.1.1 y.1.1;have N:=vH x.2.2.length y.2.2.length;obtain⟨⟨k,C,s⟩,⟨a,c⟩,p⟩:=x;obtain⟨⟨A,w,I⟩,⟨J,K⟩,q⟩:=y;simp only at*;clear hx hy;by_cases e:k=A
  ·subst e;rw[if_pos rfl];have o:k≠4->p=[]/\q=[]:=λf=>⟨b8 (l.2.2.2.2 f),b8 (j.2.2.2.2 f)⟩;have r:k≠2->s.toList=[]/\I.toList=[]:=λf=>⟨l.1 f,j.1 f⟩;rcases B with g|g|g|g|g|⟨g,D⟩
   ·subst g;obtain⟨rfl,rfl⟩:=o (by decide);obtain⟨h,i⟩:=r (by decide);rw[if_pos (by decide),h,i];simp[aN];omega
   ·subst g;obtain⟨rfl,rfl⟩:=o (by decide);have z:C=0:=l.2.1 rfl;have t:w=0:=j.2.1 rfl;subst z t;rw[if_neg (by decide),if_pos rfl];simp[aN];rcases E with⟨f,u⟩|⟨f,u⟩|⟨f,u⟩
    ·refine⟨λe=>by omega,λe=>?_⟩;rw[e,yd]at f;cases f
    ·exact⟨λ_=>f,λ_=>u⟩
    ·refine⟨λe=>by omega,λe=>?_⟩;rw[e,yd]at f;cases f
   ·subst g;obtain⟨rfl,rfl⟩:=o (by decide);obtain⟨h,i⟩:=r (by decide);rw[if_pos (by decide),h,i];simp[aN];omega
   ·subst g;obtain⟨h,i⟩:=r (by decide);have z:C=0:=l.2.2.1 rfl;have t:w=0:=j.2.2.1 rfl;subst z t;rw[if_neg (by decide),if_neg (by decide),if_pos rfl,h,i];by_cases el:p.length=q.length
    ·rw[if_pos el,H el];simp
    ·rw[if_neg el,C9 _ _ _ el];simp;omega
   ·subst g;obtain⟨rfl,rfl⟩:=o (by decide);obtain⟨h,i⟩:=r (by decide);rw[if_pos (by decide),h,i];simp[aN];omega
   ·subst g;obtain⟨rfl,rfl⟩:=o (by decide);obtain⟨h,i⟩:=r (by decide);have t:w=0:=j.2.2.2.1 rfl;subst D t;rw[if_neg (by decide),if_neg (by decide),if_neg (by decide),h,i];simp[aN]
  ·rw[if_neg e];have:(k==A)=false:=by simpa using e
   rw[this];simp;omega
abbrev An:=(n:Nat)×Tm n
def ci:An->Int
 | ⟨0,_⟩=>0
 | ⟨_+1,x⟩=>x.1.1
def eI(x y:An):Bool:=aJ x.1 x.2 y.1 y.2
def GW(B:Nat)(w:ah)(x:An):Prop:=In B w x.1 x.2
def aL(x:An):Prop:=∀a∈aH x.1 x.2,cM a=true
def jQ{a c S:Type}(f:a->c->S->Option S):List a->List c->S->Option S
 | x::p,y::q,b=>(f x y b).bind (jQ f p q)
 | _,_,b=>some b
def vV(b:List An)(i:Nat)(t:An):Option (List An):=
 match b[i]? with
 | some a=>if ci a=6 then some (b.set i t)else if eI a t then some b else none
 | none=>none
def jb:(n:Nat)->Tm n->(m:Nat)->Tm m->List An->Option (List An)
 | n+1,p,m+1,t,b=>
  if p.1.1=6 then some b
  else if p.1.1=5 then vV b p.1.2.1.toNat ⟨m+1,t⟩
  else if p.1.1=4 then
   if t.1.1=4/\p.2.2.length=t.2.2.length then jQ (λx y b=>jb n x m y b) p.2.2 t.2.2 b else none
  else if aJ (n+1) p (m+1) t then some b else none
 | _,_,_,_,_=>none
def QN(x y:An)(b:List An):Option (List An):=jb x.1 x.2 y.1 y.2 b
def lQ:List (An×An)->List An->Option (List An)
 | [],b=>some b
 | (x,y)::r,b=>(QN x y b).bind (lQ r)
def kJ(n m:Nat)(p:List (Tm n))(q:List (Tm m)):List (An×An):=List.zipWith (λx y=>(⟨n,x⟩,⟨m,y⟩)) p q
def vo(P:An->Prop):Prop:=∀(n:Nat)(x:Tm (n+1))(y:Tm n),P ⟨n+1,x⟩->y∈x.2.2->P ⟨n,y⟩
theorem yr{a e S:Type}(f:a->e->S->Option S)(Q:S->Prop):(p:List a)->(q:List e)->(∀x∈p,∀y∈q,∀b c,Q b->f x y b=some c->Q c)->∀b c,Q b->jQ f p q b=some c->Q c
 | [],_,_,b,c,hb,h=>by simp[jQ]at h;rw[<-h];exact hb
 | _::_,[],_,b,c,hb,h=>by simp[jQ]at h;rw[<-h];exact hb
 | x::p,y::q,hf,b,c,hb,h=>by
  simp only[jQ]at h;obtain⟨d,g,i⟩:=cu.1 h;exact yr f Q p q (λx' j l k=>hf x' (b9 _ j) l (b9 _ k)) d c (hf x (by simp) y (by simp) b d hb g) i
theorem Ia(P:An->Prop)(b c:List An)(i:Nat)(t:An)(f:P t)(d:b.length=4/\∀y∈b,P y)(a:vV b i t=some c):c.length=4/\∀y∈c,P y:=by
 unfold vV at a;split at a
 ·split at a
  ·obtain rfl:=aI a;refine⟨by simpa using d.1,λy g=>?_⟩;rcases tY g with e|rfl
   ·exact d.2 y e
   ·exact f
  ·split at a
   ·obtain rfl:=aI a;exact d
   ·cases a
 ·cases a
theorem lP(P:An->Prop)(d:vo P):(n:Nat)->(p:Tm n)->(m:Nat)->(t:Tm m)->P ⟨m,t⟩->∀b c,(b.length=4/\∀y∈b,P y)->jb n p m t b=some c->(c.length=4/\∀y∈c,P y)
 | 0,_,_,_,_,_,_,_,h=>by simp[jb]at h
 | n+1,_,0,_,_,_,_,_,h=>by simp[jb]at h
 | n+1,p,m+1,t,ht,b,c,a,h=>by
  simp only[jb]at h;split at h
  ·obtain rfl:=aI h;exact a
  split at h
  ·exact Ia P b c _ _ ht a h
  split at h
  ·split at h
   ·exact yr _ _ p.2.2 t.2.2 (λx g y f b c a e=>lP P d n x m y (d m t y ht f) b c a e) b c a h
   ·cases h
  ·split at h
   ·obtain rfl:=aI h;exact a
   ·cases h
theorem Hz{S:Type}(f:d->h->S->Option S)(p:List d)(q:List h)(k:Nat)(x:d)(y:h)(i:p[k]?=some x)(j:q[k]?=some y)(b:S):jQ f (p.drop k) (q.drop k) b=(f x y b).bind (jQ f (p.drop (k+1)) (q.drop (k+1))):=by
 obtain⟨e,a⟩:=bi.1 i;obtain⟨g,c⟩:=bi.1 j;rw[fp e,fp g,a,c];rfl
theorem LB(B:Nat)(w:ah):vo (GW B w):=by
 intro n h i d c;rcases d.2 with a|⟨b,o,j,k,a⟩
 ·have e:h.2.2=[]:=a;rw[e]at c;cases c
 ·obtain⟨g,f⟩:=di c;exact(a g i f).2
theorem bt:vo aL:=λ_ _ _ b d a c=>b a (nu d c)
theorem I0{P Q:An->Prop}(c:vo P)(d:vo Q):vo λx=>P x/\Q x:=λn x y a b=>⟨c n x y a.1 b,d n x y a.2 b⟩
theorem uk(s:aq)(w:ah)(l:s.size<=9223372036854775807):au 113 #[af s] w λe w'=>e=aw (.bool (gD s.data.toList))/\w'=w:=by
 go_enter func113,ntmps113;go_wp2_with fail
 go_loop [3] (λb=>∃k:Nat,k<=s.size/\b=ae k/\Hid (gD (s.data.toList.take k)=true)) (λb=>s.size-(intOf b).toNat)
 case atStart=>exact⟨0,aM _,rfl,by simp[Hid,gD]⟩
 case round=>
  obtain⟨k,j,rfl,f⟩:=hrel;by_cases i:k<s.size
  ·have c:=av (wF s k i);have d:Hid (Av s[k]=false->false=gD s.data.toList):=λg=>by
    have a:gD s.data.toList=(gD (s.data.toList.take (k+1)) && gD (s.data.toList.drop (k+1))):=by
     conv=>lhs;rw[<-iM (k+1) s.data.toList]
     simp only[gD,lw]
    rw[a,c.out,g];simp
   by_cases h:97<=(s[k].toNat:Int)
   ·by_cases a:(s[k].toNat:Int)<=122
    ·go_wp2_with fail
     go_round
     case rel=>exact⟨k+1,by omega,by go_num,by simp only[Hid];rw[c.out,f.out];simp[Av,h,a]⟩
     case measure=>simp[intOf];omega
    ·go_wp2_with fail
     go_ret
     exact⟨bZ (d (by simp[Av,a])),rfl⟩
   ·go_wp2_with fail
    go_ret
    exact⟨bZ (d (by simp[Av];omega)),rfl⟩
  ·go_wp2_with fail
   go_ret
   exact⟨bZ (by rw[<-f.out,bG (by simp;omega)]),rfl⟩
theorem je(s:aq)(w:ah)(d:s.size<=9223372036854775807):au 115 #[af s] w λe w'=>e=aw (.bool (ei s))/\w'=w:=by
 by_cases b:(1:Int)<=s.size
 ·by_cases c:(s.size:Int)<=8
  ·have a:Hid (ei s=gD s.data.toList):=by simp only[Hid,ei,qX];simp[b,c]
   go_enter func115,ntmps115;go_wp2_with (go_at_call 113;refine(uk _ _ d).mono ?_;rintro e w' ⟨rfl,rfl⟩)
   all_goals go_ret
   all_goals exact⟨bZ (by rw[a.out]),rfl⟩
  ·have a:Hid (ei s=false):=by simp only[Hid,ei,qX];simp[c]
   go_enter func115,ntmps115;go_wp2_with fail
   go_ret
   exact⟨bZ (by rw[a.out]),rfl⟩
 ·have a:Hid (ei s=false):=by simp only[Hid,ei,qX];simp[b]
  go_enter func115,ntmps115;go_wp2_with fail
  go_ret
  exact⟨bZ (by rw[a.out]),rfl⟩
def bQ(n:Nat)(x:Tm (n+1)):Nd:=(x.1,(x.2.1.1,x.2.2.length,x.2.1.2))
def cv:(n:Nat)->Tm n->Bool
 | 0,_=>false
 | n+1,x=>cM (bQ n x) && (!(x.1.1==4) || x.2.2.all λy=>cv n y)
def Oj(n:Nat):Prop:=∀(x:Tm n)(B:Nat)(w:ah),In B w n x->B<=w.heap.size->
 au 77 #[dF n x] w λe w'=>e=aw (.bool (cv n x))/\ap w w'
theorem kT(w:ah)(k b:Int)(s:aq)(a:ay)(l c:Nat)(d:k=1\/k=3\/k=5\/k=6):au 77 #[.agg #[ae k,ae b,af s,ag a l c]] w λe w'=>e=aw (.bool (cM ((k,b,s),(a,l,c))))/\ap w w':=by
 rcases d with rfl|rfl|rfl|rfl
 all_goals
  go_enter func77,ntmps77;go_wp2
  all_goals go_ret
  all_goals refine⟨bZ ?_,by go_grown⟩
  all_goals go_light
  all_goals first|(simp[cM,qX, *];done)|(simp[cM,qX, *];omega)
theorem Cg(w:ah)(b:Int)(s:aq)(a:ay)(l c:Nat)(d:s.size<=9223372036854775807):au 77 #[.agg #[ae 2,ae b,af s,ag a l c]] w λe w'=>e=aw (.bool (cM ((2,b,s),(a,l,c))))/\ap w w':=by
 go_enter func77,ntmps77;go_wp2_with (go_at_call 115;refine(je _ _ d).mono ?_;rintro e w' ⟨rfl,rfl⟩)
 all_goals go_ret
 all_goals refine⟨bZ ?_,by go_grown⟩
 all_goals go_light
 all_goals first|(simp[cM, *];done)|(simp[cM, *];omega)
theorem Ch(w:ah)(k j:Int)(s:aq)(a:ay)(l c:Nat)(b:¬k=1)(d:¬k=2)(f:¬k=3)(g:¬k=4)(h:¬k=5)(i:¬k=6):au 77 #[.agg #[ae k,ae j,af s,ag a l c]] w λe w'=>e=aw (.bool (cM ((k,j,s),(a,l,c))))/\ap w w':=by
 have m:cM ((k,j,s),(a,l,c))=false:=by simp[cM,b,d,f,g,h,i]
 rw[m];have n:(k==1)=false:=by simpa using b
 have o:(k==2)=false:=by simpa using d
 have p:(k==3)=false:=by simpa using f
 have q:(k==4)=false:=by simpa using g
 have r:(k==5)=false:=by simpa using h
 have t:(k==6)=false:=by simpa using i
 clear b d f g h i m;go_enter func77,ntmps77;go_wp2_with fail
 go_ret
 exact⟨rfl,by go_grown⟩
theorem Bt(n:Nat)(ih:Oj n)(p:List (Tm n))(len:Nat)(z:Hid (p.length=len))(a:ay)(pc B:Nat)(w:ah)(g:Hid (p=[]\/∃b o,a=some ⟨b,o,none⟩/\b<B/\∀(i:Nat)(y:Tm n),p[i]?=some y->eg w b (o+i*4) n y/\In B w n y))(K:len<=9223372036854775807)(r:B<=w.heap.size):au 116 #[ag a len pc] w λe w'=>e=aw (.bool (decide ((len:Int)<=8) && p.all λy=>cv n y))/\ap w w':=by
 by_cases G:(8:Int)<len
 ·have j:decide ((len:Int)<=8)=false:=by simp;omega
  rw[j];go_enter func116,ntmps116;go_wp2_with fail
  go_ret
  exact⟨rfl,aG _ _⟩
 have j:decide ((len:Int)<=8)=true:=by simp;omega
 rw[j,eT];clear j;go_enter func116,ntmps116;go_wp2_with fail;go_loopw [10] (λi wr=>∃k:Nat,k<=len/\i=ae k/\ap w wr/\Hid (((p.drop k).all λy=>cv n y)=p.all λy=>cv n y)) (λi _=>len-(intOf i).toNat)
 case atStart=>exact⟨0,by omega,rfl,aG _ _,rfl⟩
 case round=>
  obtain⟨k,H,rfl,d,s⟩:=hrel;by_cases D:k<len
  ·obtain⟨c,l⟩:∃c,p[k]?=some c:=⟨p[k]'(by rw[z.out];exact D),aU _⟩;have t:Hid (((p.drop k).all λy=>cv n y)=(cv n c && (p.drop (k+1)).all λy=>cv n y)):=by
    obtain⟨h,C⟩:=bi.1 l;rw[fp h,C];rfl
   rcases g.out with g|⟨L,po,rfl,E,g⟩
   ·subst g;simp at l
   obtain⟨m,q⟩:=g k c l;replace m:=m.below (d.mono r) E;replace q:=q.below (d.mono r);clear g l;cases n with
   | zero=>exact m.elim
   | succ n=>
   obtain⟨M,N,O,P⟩:=m;have u:B<=wr.heap.size:=aF r d.size
   have A:Hid (∀f,ap wr f->au 77 #[.agg #[ae c.1.1,ae c.1.2.1,af c.1.2.2,ag c.2.1.1 c.2.2.length c.2.1.2]] f λe w'=>e=aw (.bool (cv (n+1) c))/\ap f w'):=
    λf h=>ih c B f (q.below (h.mono u)) (aF u h.size)
   clear ih q;generalize c.2.2.length=Q at*;generalize cv (n+1) c=F at*;have I:(0:Int)<=(k:Int):=by omega
   have J:(k:Int)<(len:Int):=by omega
   go_wp2_with fail;refine(A _ (aV _ _)).mono ?_;rintro e f ⟨rfl,v⟩;have x:ap w f:=(d.trans ((aV _ _).mono d.size)).trans (v.mono (by have:=d.size;simp;omega));clear v;cases F with
   | true=>
    go_wp2_with fail;go_roundw
    case rel=>exact⟨k+1,by omega,by go_num,x,by rw[<-s.out,t.out];rfl⟩
    case measure=>simp[intOf];omega
   | false=>
    go_wp2_with fail
    go_ret
    exact⟨bZ (by rw[<-s.out,t.out];rfl),x⟩
  ·go_wp2_with fail
   go_ret
   refine⟨bZ ?_,d⟩;rw[<-s.out,km (by rw[z.out];omega)];rfl
theorem Ew(w:ah)(b:Int)(s:aq)(a:ay)(l c:Nat)(r:Bool)(H:Hid (∀w1:ah,ap w w1->au 116 #[ag a l c] w1 λe w'=>e=aw (.bool (decide ((l:Int)<=8) && r))/\ap w1 w')):au 77 #[.agg #[ae 4,ae b,af s,ag a l c]] w λe w'=>e=aw (.bool (cM ((4,b,s),(a,l,c)) && r))/\ap w w':=by
 have f:cM ((4,b,s),(a,l,c))=(s.toList.isEmpty && b==0 && decide ((l:Int)<=8)):=by simp[cM]
 rw[f];generalize decide ((l:Int)<=8)=h at*;clear f;cases h1:b==0
 ·go_enter func77,ntmps77;go_wp2_with fail
  go_ret
  exact⟨bZ (by simp),by go_grown⟩
 cases h2:s.toList.isEmpty
 ·go_enter func77,ntmps77;go_wp2_with fail
  go_ret
  exact⟨bZ (by simp),by go_grown⟩
 go_enter func77,ntmps77;go_wp2_with fail;refine(H _ (aV _ _)).mono ?_;rintro e w1 ⟨rfl,d⟩;have g:ap w w1:=(aV _ _).trans (d.mono (by simp));clear d;go_wp2_with fail
 all_goals go_ret
 all_goals exact⟨bZ (by simp),g⟩
theorem Ev(n:Nat):Oj n:=by
 induction n with
 | zero=>intro B q c l;exact l.elim
 | succ n ih=>
  intro B q c l i;obtain⟨⟨k,e,d⟩,⟨a,pc⟩,p⟩:=B;obtain⟨⟨_,_,t,D,s⟩,f⟩:=l;simp only at t D s f;unfold maxLen at s t;show au 77 #[.agg #[ae k,ae e,af d,ag a p.length pc]] c λh E=>h=aw (.bool (cM ((k,e,d),(a,p.length,pc)) && (!(k==4) || p.all λg=>cv n g)))/\ap c E;by_cases m:k=4
  ·subst m;refine Ew c e d a p.length pc _ (λF j=>Bt n ih p p.length rfl a pc q F ?_ (by omega) (aF i j.size));rcases f with f|⟨b,o,h,r,f⟩
   ·exact ak f
   ·exact am ⟨b,o,h,r,λv g u=>⟨(f v g u).1.below (j.mono i) r,(f v g u).2.below (j.mono i)⟩⟩
  ·have C:(!(k==4) || p.all λg=>cv n g)=true:=by simp[m]
   rw[C,Bool.and_true];by_cases w:k=1
   ·exact kT c k e d a p.length pc (ak w)
   by_cases x:k=2
   ·subst x;exact Cg c e d a p.length pc (by omega)
   by_cases y:k=3
   ·exact kT c k e d a p.length pc (am (ak y))
   by_cases z:k=5
   ·exact kT c k e d a p.length pc (am (am (ak z)))
   by_cases A:k=6
   ·exact kT c k e d a p.length pc (am (am (am A)))
   ·exact Ch c k e d a p.length pc w x y m z A
def cF(P:aW):(n:Nat)->Tm n->Prop
 | 0,_=>False
 | n+1,x=>x.2.2=[]\/∃b o,x.2.1.1=some ⟨b,o,none⟩/\P b/\∀(i:Nat)(y:Tm n),x.2.2[i]?=some y->cF P n y
theorem cF.mono{P Q:aW}(a:∀b,P b->Q b):{n:Nat}->{x:Tm n}->cF P n x->cF Q n x
 | 0,_,k=>k
 | _+1,_,k=>by
  rcases k with k|⟨b,o,e,c,k⟩
  ·exact ak k
  ·exact am ⟨b,o,e,a b c,λi y d=>(k i y d).mono a⟩
theorem bM{b:Nat}(a:w'.heap[b]?=w.heap[b]?)(o:Nat):w'.cell? ⟨b,o,none⟩=w.cell? ⟨b,o,none⟩:=by
 simp[World.cell?,a]
theorem eg.block{w w':ah}{b o:Nat}(a:w'.heap[b]?=w.heap[b]?):{n:Nat}->{x:Tm n}->eg w b o n x->eg w' b o n x
 | 0,_,k=>k
 | _+1,_,k=>by
  obtain⟨c,d,e,f⟩:=k;exact⟨(bM a _).trans c,(bM a _).trans d,(bM a _).trans e,(bM a _).trans f⟩
theorem In.off{P:aW}{w w':ah}(f:∀b,P b->w'.heap[b]?=w.heap[b]?){B:Nat}:{n:Nat}->{x:Tm n}->cF P n x->In B w n x->In B w' n x
 | 0,_,_,k=>k
 | _+1,_,p,k=>by
  obtain⟨m,a⟩:=k;refine⟨m,?_⟩;rcases a with a|⟨b,o,e,j,a⟩
  ·exact ak a
  ·rcases p with p|⟨q,r,c,l,p⟩
   ·exact ak p
   ·rw[e]at c;injection c with c;injection c with g h;subst g h;exact am ⟨b,o,e,j,λi y d=>⟨(a i y d).1.block (f b l),(a i y d).2.off f (p i y d)⟩⟩
theorem In.offB{P:aW}{B:Nat}{w:ah}:{n:Nat}->{x:Tm n}->cF P n x->In B w n x->cF (λb=>P b/\b<B) n x
 | 0,_,p,_=>p
 | _+1,_,p,k=>by
  obtain⟨_,a⟩:=k;rcases p with p|⟨b,o,e,h,p⟩
  ·exact ak p
  ·rcases a with a|⟨l,m,c,j,a⟩
   ·exact ak a
   ·rw[e]at c;injection c with c;injection c with f g;subst f g;exact am ⟨b,o,e,⟨h,j⟩,λi y d=>In.offB (p i y d) (a i y d).2⟩
def gL:(n:Nat)->Tm n->Nd
 | 0,_=>((0,0,⟨#[]⟩),(none,0,0))
 | n+1,x=>bQ n x
theorem Nj{l:List (Tm (n+1))}(a:w.ownsRow base 54 4 (ag (some ⟨g,0,none⟩) L c) L (cN (l.map (gL (n+1)))))(k:Nat)(x:Tm (n+1))(d:l[k]?=some x):eg w g (0+k*4) (n+1) x:=by
 have b:=E0 a k (gL (n+1) x) (by simp[d]);rw[cB];exact b
def rT(base:Nat)(n:Nat)(l:List (Tm n))(v:az)(w:ah):Prop:=
 w.ownsRow base 54 4 v l.length (cN (l.map (gL n)))/\∀a∈l,In w.heap.size w n a/\cF (λb=>base<=b/\v.ownBlock≠some b) n a
theorem rT.tup{l:List (Tm (n+1))}(m:rT base (n+1) l v w):∃a c,v=ag a l.length c/\cF (λb=>base<=b) (n+2) ((4,0,⟨#[]⟩),(a,c),l)/\In w.heap.size w (n+2) ((4,0,⟨#[]⟩),(a,c),l):=by
 obtain⟨i,j⟩:=m;have d:dn 4/\dn 0/\(⟨#[]⟩:aq).size<=maxLen:=⟨⟨by omega,by omega⟩,⟨by omega,by omega⟩,aM _⟩;have e:=i;obtain⟨y,e⟩:=e;rcases e with⟨e,o⟩|⟨f,cap,x,rfl,r,s,q,u,A,z⟩
 ·have:l=[]:=b8 o;subst this;refine⟨none,0,by rw[e];rfl,ak rfl,⟨d.1,d.2.1,d.2.2,aM _,aM _⟩,ak rfl⟩
 ·have t:f<w.heap.size:=(aR.1 s).1;refine⟨some ⟨f,0,none⟩,cap,rfl,am ⟨f,0,rfl,r,λk h g=>((j h (aT g)).2).mono λb p=>p.1⟩,⟨d.1,d.2.1,d.2.2,q,u⟩,am ⟨f,0,rfl,t,λk h g=>⟨Nj i k h g,(j h (aT g)).1⟩⟩⟩
def uo(a:An):Nd:=gL a.1 a.2
def gq(l:List An):List az:=cN (l.map uo)
theorem lO(l:List An):(gq l).length=l.length*4:=by simp[gq,pd]
theorem Bq(l:List An):∀a∈gq l,a.oneCell'=true:=uq _
def nS(base:Nat)(g c:Nat)(b:List An)(w:ah):Prop:=w.ownsRow base 54 4 (ag (some ⟨g,0,none⟩) b.length c) b.length (gq b)
variable{b:List An}
theorem nS.cells(a:nS base g c b w)(i:Nat)(y:An)(d:b[i]?=some y):ai w g (i*4) (ae (uo y).1.1)/\ai w g (i*4+1) (ae (uo y).1.2.1)/\ai w g (i*4+2) (af (uo y).1.2.2)/\ai w g (i*4+3) (.slice (uo y).2.1 (uo y).2.2.1 (uo y).2.2.2):=
 E0 (l:=b.map uo) a i (uo y) (by simp[d])
theorem nS.lt{base g c:Nat}{b:List An}{w:ah}(a:nS base g c b w):base<=g/\g<w.heap.size:=World.ownsRow.lt a g rfl
theorem nS.kept{base g c:Nat}{b:List An}{w w':ah}(d:nS base g c b w){row:dc}(e:w.grownBy w' row)(f:row≠some g):nS base g c b w':=
 qn d e (am λa=>f a.symm)
theorem dl(a:ap w w')(row:dc):w.grownBy w' row:=⟨a.os,a.tape,a.output,a.size,λk b _=>a.block k b⟩
theorem nS.below(a:nS base g c b w)(d:ap w w'):nS base g c b w':=a.kept (dl d none) (by simp)
theorem oZ(a:w.grownBy w' (some g))(b:B<=g)(c:g<w.heap.size):Below B w w':=⟨a.os,a.tape,a.output,a.size,λk d=>a.block k (by omega) (by simp;omega)⟩
theorem mx{row:dc}(a:w.grownBy w1 row)(k:w1.grownBy w2 row):w.grownBy w2 row:=
 ⟨k.os.trans a.os,k.tape.trans a.tape,k.output.trans a.output,aF a.size k.size,λb c d=>(k.block b (bf c a.size) d).trans (a.block b c d)⟩
theorem nS.free(e:nS base g c b w)(j:Nat):w.frozen? ⟨g,j,none⟩=false:=by
 obtain⟨n,d⟩:=e;rcases d with⟨d,_⟩|⟨m,cap,i,h,q,f,o,r,s,p⟩
 ·simp at d
 ·injection h with a k l;injection a with a;injection a with a _;subst a;simp[World.frozen?,f]
def dk(w:ah)(g o:Nat)(v0 v1 v2 v3:az):ah:=(((w.setCell ⟨g,o,none⟩ v0).setCell ⟨g,o+1,none⟩ v1).setCell ⟨g,o+2,none⟩ v2).setCell ⟨g,o+3,none⟩ v3
def jX(w:ah)(g o:Nat)(x:Nd):ah:=dk w g o (ae x.1.1) (ae x.1.2.1) (af x.1.2.2) (ag x.2.1 x.2.2.1 x.2.2.2)
theorem jO(i:w.ownsRow base e size (ag (some ⟨g,0,none⟩) L c) L xs)(j:Nat)(d:az):(w.setCell ⟨g,j,none⟩ d).ownsRow base e size (ag (some ⟨g,0,none⟩) L c) L (xs.set j d):=by
 obtain⟨k,b⟩:=i;refine⟨by simpa using k,?_⟩;rcases b with⟨b,_⟩|⟨t,cap,f,q,n,o,l,p,r,m⟩
 ·simp at b
 ·injection q with a s h;injection a with a;injection a with a _;subst a h;refine am ⟨g,c,f.setIfInBounds j d,rfl,n,?_,l,p,by simpa using r,?_⟩
  ·simp[World.setCell,bR,o]
  ·rw[<-m];simp[List.take_set]
theorem ur:(l:List Nd)->(i:Nat)->(x:Nd)->i<l.length-> ((((cN l).set (i*4) (ae x.1.1)).set (i*4+1) (ae x.1.2.1)).set (i*4+2) (af x.1.2.2)).set (i*4+3) (ag x.2.1 x.2.2.1 x.2.2.2)=cN (l.set i x)
 | [],i,x,h=>by simp at h
 | y::l,0,x,_=>by simp[cN,wL]
 | y::l,i+1,x,h=>by
  have ih:=ur l i x (by simpa using h);have e:cN (y::l)=wL y++cN l:=rfl;have b:cN ((y::l).set (i+1) x)=wL y++cN (l.set i x):=rfl;have a:(wL y).length=4:=rfl;rw[e,b,<-ih];rw[iL _ _ (by rw[a];omega),iL _ _ (by rw[a];omega),iL _ _ (by rw[a];omega),iL _ _ (by rw[a];omega),a];rw[show (i+1)*4-4=i*4 by omega,show (i+1)*4+1-4=i*4+1 by omega,show (i+1)*4+2-4=i*4+2 by omega,show (i+1)*4+3-4=i*4+3 by omega]
theorem nS.put(d:nS base g c b w)(i:Nat)(t:An)(e:i<b.length):nS base g c (b.set i t) (jX w g (i*4) (uo t)):=by
 have a:=jO (jO (jO (jO d (i*4) (ae (uo t).1.1)) (i*4+1) (ae (uo t).1.2.1)) (i*4+2) (af (uo t).1.2.2)) (i*4+3) (.slice (uo t).2.1 (uo t).2.2.1 (uo t).2.2.2);unfold gq at a;rw[ur (b.map uo) i (uo t) (by simpa using e)]at a;unfold nS gq;rw[List.map_set,lD];exact a
theorem bw{b:Nat}(c:b≠g)(v0 v1 v2 v3:az):(dk w g o v0 v1 v2 v3).heap[b]?=w.heap[b]? :=by
 have d:g≠b:=λa=>c a.symm;simp[dk,World.setCell,bR,d]
theorem bJ(v0 v1 v2 v3:az):(dk w g o v0 v1 v2 v3).heap.size=w.heap.size:=by simp[dk,World.setCell]
theorem Fe(v0 v1 v2 v3:az):w.grownBy (dk w g o v0 v1 v2 v3) (some g):=
 ⟨rfl,rfl,rfl,cR (bJ _ _ _ _).symm,λk _ b=>bw (λa=>b (by rw[a])) _ _ _ _⟩
theorem F6(c:Below (w.alloc (.cells #[v0,v1,v2,v3] t)).heap.size (w.alloc (.cells #[v0,v1,v2,v3] t)) w'):(ai w' w.heap.size 0 v0/\ai w' w.heap.size 1 v1/\ai w' w.heap.size 2 v2/\ai w' w.heap.size 3 v3)/\ (w'.frozen? ⟨w.heap.size,0,none⟩=false/\w'.frozen? ⟨w.heap.size,1,none⟩=false/\w'.frozen? ⟨w.heap.size,2,none⟩=false/\w'.frozen? ⟨w.heap.size,3,none⟩=false):=by
 have a:=λo=>c.cell (p:=⟨w.heap.size,o,none⟩) (by simp);have b:=λo=>c.frozen (p:=⟨w.heap.size,o,none⟩) (by simp);exact⟨⟨(a 0).trans (by simp[go_sem]),(a 1).trans (by simp[go_sem]),(a 2).trans (by simp[go_sem]),(a 3).trans (by simp[go_sem])⟩,(b 0).trans (by simp[go_sem]),(b 1).trans (by simp[go_sem]),(b 2).trans (by simp[go_sem]),(b 3).trans (by simp[go_sem])⟩
theorem oT(b:q<w1.heap.size)(h:ap w1 w2)(k:ai w1 q 0 f/\ai w1 q 1 i/\ai w1 q 2 j/\ai w1 q 3 l):ai w2 q 0 f/\ai w2 q 1 i/\ai w2 q 2 j/\ai w2 q 3 l:=by
 obtain⟨c,d,e,g⟩:=k;have a:=aB h;exact⟨(a _ _ b).trans c,(a _ _ b).trans d,(a _ _ b).trans e,(a _ _ b).trans g⟩
def fh(base g c:Nat)(o:Option (List An))(w:ah)(e:Ending)(w':ah):Prop:=
 e=aw (.bool o.isSome)/\w.grownBy w' (some g)/\∀b,o=some b->nS base g c b w'
def DO(B:Nat)(w:ah)(b:List An):Prop:=b.length=4/\∀y∈b,GW B w y/\aL y
theorem GW.below{B:Nat}{w w':ah}(a:Below B w w'){x:An}(k:GW B w x):GW B w' x:=In.below a k
theorem DO.below{B:Nat}{w w':ah}(c:Below B w w'){b:List An}(k:DO B w b):DO B w' b:=⟨k.1,λy a=>⟨(k.2 y a).1.below c,(k.2 y a).2⟩⟩
theorem DO.fit{a:List An}(k:DO B w b){p:Tm n}{t:Tm m}(f:In B w m t)(e:aL ⟨m,t⟩)(d:jb n p m t b=some a):DO B w a:=
 lP (λc=>GW B w c/\aL c) (I0 (LB B w) bt) n p m t ⟨f,e⟩ b a k d
def OH(n:Nat):Prop:=∀(p:Tm n)(m:Nat)(t:Tm m)(b:List An)(base g c B:Nat)(w:ah),In B w n p->In B w m t->aL ⟨n,p⟩->aL ⟨m,t⟩->DO B w b->B<=base->nS base g c b w->
 au 227 #[ag (some ⟨g,0,none⟩) 4 c,dF n p,dF m t] w (fh base g c (jb n p m t b) w)
theorem vG(x y:Int)(w:ah):au 242 #[ae x,ae y] w λe w'=>e=aw (ae (oU x y))/\w'=w:=by
 go_enter func242,ntmps242;go_wp2
 all_goals go_ret
 all_goals refine⟨jI ?_,rfl⟩
 all_goals unfold oU
 all_goals (repeat' split)<;>omega
theorem Ko(x y:aq)(w:ah):au 243 #[af x,af y] w λe w'=>e=aw (ae (xB x y))/\w'=w:=by
 go_enter func243,ntmps243;go_wp2
 all_goals go_ret
 all_goals refine⟨jI ?_,rfl⟩
 all_goals unfold xB
 all_goals simp[*]
attribute [local go_sem ↓] Go.wp_at_zero Go.wp_at_succ
def F5(n:Nat):Prop:=∀(x:Tm n)(m:Nat)(y:Tm m)(B:Nat)(w:ah),In B w n x->In B w m y->B<=w.heap.size->
 au 237 #[dF n x,dF m y] w λe w'=>e=aw (ae (yM n x m y))/\ap w w'
theorem MN(p q:Nat)(a c:ay)(pc d:Nat)(w:ah)(_hpc:p<=9223372036854775807)(_hqc:q<=9223372036854775807)(b:((p:Int)==(q:Int))=false):au 244 #[ag a p pc,ag c q d] w λe w'=>e=aw (ae (oU p q))/\w'=w:=by
 have f:((p:Int) !=(q:Int))=true:=by simpa using b
 go_enter func244,ntmps244;go_wp2_with (go_at_call 242;refine(vG _ _ _).mono ?_;rintro e w' ⟨rfl,rfl⟩)
 go_ret
 exact⟨rfl,rfl⟩
theorem MM(n m:Nat)(ih:F5 n)(p:List (Tm n))(q:List (Tm m))(len:Nat)(M:Hid (p.length=len))(V:Hid (q.length=len))(g po h l pc X:Nat)(B:Nat)(w:ah)(ai:len<=9223372036854775807)(T:g<B)(U:h<B)(L:∀(i:Nat)(y:Tm n),p[i]?=some y->eg w g (po+i*4) n y/\In B w n y)(N:∀(i:Nat)(y:Tm m),q[i]?=some y->eg w h (l+i*4) m y/\In B w m y)(o:B<=w.heap.size):au 244 #[ag (some ⟨g,po,none⟩) len pc,ag (some ⟨h,l,none⟩) len X] w λe w'=> e=aw (ae (qs (λa b=>yM n a m b) p q))/\ap w w':=by
 go_enter func244,ntmps244;go_wp2_with fail;go_loopw [19] (λi wr=>∃k:Nat,k<=len/\i=ae k/\ap w wr/\Hid (qs (λa b=>yM n a m b) (p.drop k) (q.drop k)=qs (λa b=>yM n a m b) p q)) (λi _=>len-(intOf i).toNat)
 case atStart=>exact⟨0,by omega,rfl,aG _ _,rfl⟩
 case round=>
  obtain⟨k,aa,rfl,f,z⟩:=hrel;by_cases K:k<len
  ·obtain⟨c,A⟩:∃c,p[k]?=some c:=⟨p[k]'(by rw[M.out];exact K),aU _⟩;obtain⟨y,C⟩:∃y,q[k]?=some y:=⟨q[k]'(by rw[V.out];exact K),aU _⟩;obtain⟨s,t⟩:=L k c A;obtain⟨u,v⟩:=N k y C;have E:Hid (qs (λa b=>yM n a m b) (p.drop k) (q.drop k)=if yM n c m y=0 then qs (λa b=>yM n a m b) (p.drop (k+1)) (q.drop (k+1))else yM n c m y):=IV (λa b=>yM n a m b) p q k c y A C;replace s:=s.below (f.mono o) T;replace u:=u.below (f.mono o) U;replace t:=t.below (f.mono o);replace v:=v.below (f.mono o);clear L N A C;cases n with
   | zero=>exact s.elim
   | succ n=>
   cases m with
   | zero=>exact u.elim
   | succ m=>
   obtain⟨al,am,an,ao⟩:=s;obtain⟨y0,y1,y2,aq⟩:=u;have J:∀(d:ah),In B d (n+1) c->In B d (m+1) y->B<=d.heap.size->au 237 #[.agg #[ae c.1.1,ae c.1.2.1,af c.1.2.2,ag c.2.1.1 c.2.2.length c.2.1.2],.agg #[ae y.1.1,ae y.1.2.1,af y.1.2.2,ag y.2.1.1 y.2.2.length y.2.1.2]] d λe w'=>e=aw (ae (yM (n+1) c (m+1) y))/\ap d w':=λd P Q R=>ih c (m+1) y B d P Q R;have D:=av J;clear J ih;have F:=av t;have G:=av v;clear t v;generalize yM (n+1) c (m+1) y=r at*;generalize c.2.2.length=Y at*;generalize y.2.2.length=yl at*;have ab:(0:Int)<=(k:Int):=by omega
   have ad:(k:Int)<(len:Int):=by omega
   have S:B<=wr.heap.size:=aF o f.size;have O:=av (D wr.drew (F.below (aG _ _).drew) (G.below (aG _ _).drew) S);have aj:g<wr.heap.size:=by omega
   have ak:h<wr.heap.size:=by omega
   clear D F G;go_wp2_with fail
   go_region_held3 (λw'=>w'.cell? ⟨g,po+k*4,none⟩=some (ae c.1.1)/\w'.cell? ⟨g,po+k*4+1,none⟩=some (ae c.1.2.1)/\w'.cell? ⟨g,po+k*4+2,none⟩=some (af c.1.2.2)/\w'.cell? ⟨g,po+k*4+3,none⟩=some (ag c.2.1.1 Y c.2.1.2)
       /\w'.cell? ⟨h,l+k*4,none⟩=some (ae y.1.1)/\w'.cell? ⟨h,l+k*4+1,none⟩=some (ae y.1.2.1)/\w'.cell? ⟨h,l+k*4+2,none⟩=some (af y.1.2.2)/\w'.cell? ⟨h,l+k*4+3,none⟩=some (ag y.2.1.1 yl y.2.1.2))
    (go_keep) ((go_at_call 237;refine O.mono ?_;rintro e d ⟨rfl,H⟩;have Z:=aB (dd H)))
   have I:ap w d:=f.trans ((dd H).mono f.size);by_cases j:r=0
   ·have x:Hid (r=0):=j;have W:(r !=0)=false:=by rw[j];rfl
    clear j;go_wp2_with fail;go_roundw
    case rel=>exact⟨k+1,by omega,by go_num,I,by rw[<-z.out,E.out,if_pos x.out];rfl⟩
    case measure=>simp[intOf];omega
   ·have x:Hid (¬r=0):=j;have W:(r !=0)=true:=by simpa using j
    clear j;go_wp2_with fail
    go_ret
    exact⟨jI (by rw[<-z.out,E.out,if_neg x.out]),I⟩
  ·go_wp2_with fail
   go_ret
   refine⟨jI ?_,f⟩;rw[<-z.out,km (by rw[M.out];omega)];rfl
theorem Bw(n m:Nat)(a c:ay)(pc d:Nat)(w:ah):au 244 #[.slice a ([]:List (Tm n)).length pc,.slice c ([]:List (Tm m)).length d] w λe w'=>e=aw (ae (qs (λa b=>yM n a m b) [] []))/\ap w w':=by
 show au 244 #[ag a 0 pc,ag c 0 d] w λe w'=>e=aw (ae 0)/\ap w w';go_enter func244,ntmps244;go_wp2_with fail
 go_loop [19] (λf=>f=ae 0) (λ_=>0)
 case atStart=>rfl
 case round=>
  obtain rfl:=hrel;go_wp2_with fail
  go_ret
  exact⟨rfl,aG _ _⟩
theorem EZ(w:ah)(k b h i:Int)(s g:aq)(a c:ay)(pl f pc d:Nat)(e:¬k=b):au 237 #[.agg #[ae k,ae h,af s,ag a pl pc],.agg #[ae b,ae i,af g,ag c f d]] w λe w'=>e=aw (ae (oU k b))/\ap w w':=by
 have j:(k !=b)=true:=by simpa using e
 clear e;go_enter func237,ntmps237;go_wp2_with (go_at_call 242;refine(vG _ _ _).mono ?_;rintro e w' ⟨rfl,rfl⟩)
 go_ret
 exact⟨rfl,(aV _ _).alloc (by simp) _⟩
theorem tE(w:ah)(k d f:Int)(s c:aq)(a g:ay)(pl i pc h:Nat)(r:Int)(b:k=1\/k=3\/k=5):au 237 #[.agg #[ae k,ae d,af s,ag a pl pc],.agg #[ae k,ae f,af c,ag g i h]] w λe w'=>e=aw (ae (if k=1\/k=3\/k=5 then oU d f else if k=2 then xB s c else if k=4 then r else 0))/\ap w w':=by
 rw[if_pos b];rcases b with rfl|rfl|rfl
 all_goals
  go_enter func237,ntmps237;go_wp2_with (go_at_call 242;refine(vG _ _ _).mono ?_;rintro e w' ⟨rfl,rfl⟩)
  go_ret
  exact⟨rfl,(aV _ _).alloc (by simp) _⟩
theorem IX(w:ah)(g h:Int)(s b:aq)(a c:ay)(pl f pc d:Nat):au 237 #[.agg #[ae 2,ae g,af s,ag a pl pc],.agg #[ae 2,ae h,af b,ag c f d]] w λe w'=>e=aw (ae (xB s b))/\ap w w':=by
 go_enter func237,ntmps237;go_wp2_with (go_at_call 243;refine(Ko _ _ _).mono ?_;rintro e w' ⟨rfl,rfl⟩)
 go_ret
 exact⟨rfl,(aV _ _).alloc (by simp) _⟩
theorem EY(w:ah)(k m n:Int)(s l:aq)(a h:ay)(pl j pc i:Nat)(b:¬k=1)(c:¬k=2)(d:¬k=3)(f:¬k=4)(g:¬k=5):au 237 #[.agg #[ae k,ae m,af s,ag a pl pc],.agg #[ae k,ae n,af l,ag h j i]] w λe w'=>e=aw (ae 0)/\ap w w':=by
 have o:(k==1)=false:=by simpa using b
 have p:(k==2)=false:=by simpa using c
 have q:(k==3)=false:=by simpa using d
 have r:(k==4)=false:=by simpa using f
 have t:(k==5)=false:=by simpa using g
 clear b c d f g;go_enter func237,ntmps237;go_wp2_with fail
 go_ret
 exact⟨rfl,(aV _ _).alloc (by simp) _⟩
theorem IY(w:ah)(j k:Int)(s i:aq)(a b:ay)(pl f pc d:Nat)(r:Int)(c:∀w1:ah,ap w w1->au 244 #[ag a pl pc,ag b f d] w1 λe w'=>e=aw (ae r)/\ap w1 w'):au 237 #[.agg #[ae 4,ae j,af s,ag a pl pc],.agg #[ae 4,ae k,af i,ag b f d]] w λe w'=>e=aw (ae r)/\ap w w':=by
 have g:=av c;clear c;go_enter func237,ntmps237;go_wp2_with fail;refine(g _ ((aV _ _).alloc (by simp) _)).mono ?_;rintro e w' ⟨rfl,h⟩;go_wp2_with fail
 go_ret
 exact⟨rfl,((aV _ _).alloc (by simp) _).trans (h.mono (by simp;omega))⟩
theorem IW(n:Nat):F5 n:=by
 induction n with
 | zero=>intro U h t H g G;exact G.elim
 | succ n ih=>
  intro U h t H g G r w;cases h with
  | zero=>exact r.elim
  | succ h=>
  obtain⟨⟨k,l,i⟩,⟨a,pc⟩,c⟩:=U;obtain⟨⟨z,m,j⟩,⟨f,e⟩,d⟩:=t;obtain⟨⟨M,Y,S,P,E⟩,p⟩:=G;obtain⟨⟨N,Z,T,R,F⟩,q⟩:=r;simp only at M Y S P E p N Z T R F q
  show au 237 #[.agg #[ae k,ae l,af i,ag a c.length pc],.agg #[ae z,ae m,af j,ag f d.length e]] g λo B=>o=aw (ae (if k=z then
   if k=1\/k=3\/k=5 then oU l m else if k=2 then xB i j else if k=4 then if c.length=d.length then qs (λa b=>yM n a h b) c d else oU c.length d.length
   else 0 else oU k z))/\ap g B
  have V:∀s:ah,ap g s->au 244 #[ag a c.length pc,ag f d.length e] s λo B=>o=aw (ae (if c.length=d.length then qs (λa b=>yM n a h b) c d else oU c.length d.length))/\ap s B:=by
   intro s x;unfold maxLen at E F;by_cases u:c.length=d.length
   ·rw[if_pos u];rcases p with p|⟨aa,po,rfl,O,p⟩
    ·subst p;have X:d=[]:=b8 u.symm;subst X;exact Bw n h a f pc e s
    ·rcases q with q|⟨ab,ad,rfl,Q,q⟩
     ·subst q;have W:c=[]:=b8 u;subst W;exact Bw n h _ f pc e s
     ·have L:=MM n h ih c d c.length rfl u.symm aa po ab ad pc e H s (by omega) O Q (λy t r=>⟨(p y t r).1.below (x.mono w) O,(p y t r).2.below (x.mono w)⟩)
        (λy t r=>⟨(q y t r).1.below (x.mono w) Q,(q y t r).2.below (x.mono w)⟩) (aF w x.size)
      rw[u]at L;rw[u];exact L
   ·rw[if_neg u];refine(MN c.length d.length a f pc e s (by omega) (by omega) (by simp;omega)).mono ?_;rintro o B ⟨rfl,rfl⟩;exact⟨rfl,aG _ _⟩
  generalize (if c.length=d.length then qs (λa b=>yM n a h b) c d else oU c.length d.length)=A at*;clear p q ih P E R F S T w;generalize c.length=pl at*;generalize d.length=v at*;obtain⟨ai,al⟩:=M;obtain⟨aj,an⟩:=N;by_cases o:k=z
  ·subst o;rw[if_pos rfl];by_cases I:k=1
   ·subst I;exact tE g 1 l m i j a f pl v pc e A (ak rfl)
   by_cases J:k=3
   ·subst J;exact tE g 3 l m i j a f pl v pc e A (am (ak rfl))
   by_cases K:k=5
   ·subst K;exact tE g 5 l m i j a f pl v pc e A (am (am rfl))
   rw[if_neg (by omega)];by_cases C:k=2
   ·subst C;exact IX g l m i j a f pl v pc e
   rw[if_neg C];by_cases D:k=4
   ·subst D;exact IY g l m i j a f pl v pc e A V
   rw[if_neg D];exact EY g k l m i j a f pl v pc e I C J D K
  ·rw[if_neg o];exact EZ g k z l m i j a f pl v pc e o
theorem jS(k b:Int)(s:aq)(a:ay)(l c:Nat)(w:ah):au 234 #[.agg #[ae k,ae b,af s,ag a l c]] w λe w'=>e=aw (.bool (!(k==6)))/\ap w w':=by
 cases h:k==6
 all_goals
  go_enter func234,ntmps234;go_wp2_with fail
  go_ret
  exact⟨gd (by simp[bne,h]),aV _ _⟩
theorem CS(x:An)(y:An)(B:Nat)(w:ah)(d:GW B w x)(f:GW B w y)(b:B<=w.heap.size)(g:aL x)(h:aL y):au 237 #[dF x.1 x.2,dF y.1 y.2] w λe w'=>∃r,e=aw (ae r)/\Hid ((r==0)=eI x y)/\ap w w':=by
 refine(IW x.1 x.2 y.1 y.2 B w d f b).mono ?_;rintro e w' ⟨rfl,c⟩;refine⟨_,rfl,?_,c⟩;have a:=CR x.1 x.2 y.1 y.2 g h;unfold Hid eI;cases hs:aJ x.1 x.2 y.1 y.2
 ·rw[hs]at a;simp only[p7,iff_false]at a;simpa using a
 ·rw[hs]at a;simp only[iff_true]at a;simpa using a
theorem KQ(b:List An)(base g c B:Nat)(w:ah)(k:Nat)(K:k<4)(m:Nat)(t:Tm (m+1))(y:DO B w b)(M:In B w (m+1) t)(L:aL ⟨m+1,t⟩)(U:B<=base)(H:nS base g c b w):au 235 #[ag (some ⟨g,0,none⟩) 4 c,ae k,.agg #[ae t.1.1,ae t.1.2.1,af t.1.2.2,ag t.2.1.1 t.2.2.length t.2.1.2]] w (fh base g c (vV b k ⟨m+1,t⟩) w):=by
 obtain⟨a,v⟩:∃a,b[k]?=some a:=⟨b[k]'(by rw[y.1];exact K),aU _⟩;obtain⟨E,N⟩:=y.2 a (aT v);obtain⟨n,a⟩:=a;cases n with
 | zero=>exact E.elim
 | succ n=>
 have D:Hid (vV b k ⟨m+1,t⟩=if a.1.1=6 then some (b.set k ⟨m+1,t⟩)else if eI ⟨n+1,a⟩ ⟨m+1,t⟩then some b else none):=by simp only[Hid,vV,v,ci];rfl
 obtain⟨j,l,p,q⟩:=H.cells k _ v;simp only[uo,gL,bQ]at j l p q;have Z:(0:Int)<=(k:Int):=by omega
 have aa:(k:Int)<4:=by omega
 have A:=av H;have I:=av v;have R:g<w.heap.size:=H.lt.2;clear v H;generalize vV b k ⟨m+1,t⟩=o at*;cases h6:a.1.1==6
 case true=>
  go_enter func235,ntmps235;go_wp2_with fail;refine(jS _ _ _ _ _ _ _).mono ?_;rintro h e ⟨rfl,d⟩;have f:=av d;clear j l p q;have r:Hid (nS base g c b e):=(A.kept (dB w _ none) (by simp)).below d;have W:=λS=>r.free S;obtain⟨⟨t0,t1,t2,t3⟩,_⟩:=F6 d;obtain⟨j,l,p,q⟩:=r.out.cells k _ I;simp only[uo,gL,bQ]at j l p q;clear d;go_wp2_with fail
  go_ret
  have s:o=some (b.set k ⟨m+1,t⟩):=by rw[D.out,if_pos (by simpa using h6)]
  subst s;exact⟨rfl,mx (dl ((aV _ _).trans (f.mono (by simp))) _) (Fe _ _ _ _),λJ h=>by obtain rfl:=aI h;exact r.put k ⟨m+1,t⟩ (by rw[y.1];exact K)⟩
 case false=>
  go_enter func235,ntmps235;go_wp2_with fail;refine(jS _ _ _ _ _ _ _).mono ?_;rintro h e ⟨rfl,d⟩;clear j l p q;have f:Hid (ap w e):=(aV _ _).trans (d.mono (by simp));have r:Hid (nS base g c b e):=(A.kept (dB w _ none) (by simp)).below d;obtain⟨⟨t0,t1,t2,t3⟩,_⟩:=F6 d;obtain⟨j,l,p,q⟩:=r.out.cells k _ I;simp only[uo,gL,bQ]at j l p q;have z:Hid (B<=w.heap.size):=by have:=A.lt;unfold Hid;omega
  have P:Hid (w.heap.size<e.heap.size):=by have:=d.size;simp at this;unfold Hid;omega
  have F:Hid (GW B e ⟨n+1,a⟩/\GW B e ⟨m+1,t⟩):=⟨E.below (f.mono z),GW.below (x:=⟨m+1,t⟩) (f.mono z) M⟩;have Q:=av (CS ⟨n+1,a⟩ ⟨m+1,t⟩ B e.drew (F.1.below (aG _ _).drew) (F.2.below (aG _ _).drew) (aF z f.size) N L);clear d M E y N L;go_wp2_with fail
  go_region_held3 (λi=>i.cell? ⟨g,k*4,none⟩=some (ae a.1.1)/\i.cell? ⟨g,k*4+1,none⟩=some (ae a.1.2.1)/\i.cell? ⟨g,k*4+2,none⟩=some (af a.1.2.2)/\i.cell? ⟨g,k*4+3,none⟩=some (ag a.2.1.1 a.2.2.length a.2.1.2)
        /\i.cell? ⟨w.heap.size,0,none⟩=some (ae t.1.1)/\i.cell? ⟨w.heap.size,1,none⟩=some (ae t.1.2.1)/\i.cell? ⟨w.heap.size,2,none⟩=some (af t.1.2.2)/\i.cell? ⟨w.heap.size,3,none⟩=some (ag t.2.1.1 t.2.2.length t.2.1.2))
      (go_keep) ((go_at_call 237;refine Q.mono ?_;rintro h O ⟨T,rfl,G,u⟩;have V:=aB (dd u);have X:g<e.heap.size:=bf R f.size;have Y:w.heap.size<e.heap.size:=P.out))
  replace u:=dd u;have C:Hid (w.grownBy O (some g)/\nS base g c b O):=⟨dl (f.trans (u.mono f.size)) _,r.below u⟩;have s:o=if eI ⟨n+1,a⟩ ⟨m+1,t⟩then some b else none:=by rw[D.out,if_neg (by simpa using h6)]
  rw[<-G.out]at s;clear G D;cases h0:T==0
  all_goals
   rw[h0]at s;go_wp2_with fail
   go_ret
   simp only[p7,if_false,cC]at s;subst s
  ·exact⟨rfl,C.1,λJ h=>by cases h⟩
  ·exact⟨rfl,C.1,λJ h=>by obtain rfl:=aI h;exact C.2⟩
def LY(x:Nd):Bool:= !(x.1.1==5) && !(x.1.1==6)
def kQ(n:Nat)(x:Tm n):Bool:=(aH n x).all LY
def aX:(n:Nat)->Tm n->Bool
 | 0,_=>true
 | n+1,x=> !(x.1.1==5) && !(x.1.1==6) && x.2.2.all λy=>aX n y
theorem fQ:(n:Nat)->(x:Tm n)->aX n x=kQ n x
 | 0,_=>by simp[aX,kQ,aH,LY]
 | n+1,x=>by
  have key:∀l:List (Tm n),(l.all λy=>aX n y)=(l.flatMap λy=>aH n y).all LY:=by
   intro l
   induction l with
   | nil=>rfl
   | cons y l ih=>
    have:=fQ n y;unfold kQ at this;simp only[jw,bL,lw,ih,this]
  show (!(x.1.1==5) && !(x.1.1==6) && x.2.2.all λy=>aX n y)=(LY (x.1,(x.2.1.1,x.2.2.length,x.2.1.2)) && (x.2.2.flatMap λy=>aH n y).all LY);rw[key];rfl
def PN(n:Nat):Prop:=∀(x:Tm n)(B:Nat)(w:ah),In B w n x->B<=w.heap.size->
 au 132 #[dF n x] w λe w'=>e=aw (.bool (aX n x))/\ap w w'
theorem BJ(n:Nat)(ih:PN n)(h I:Int)(s:aq)(a:ay)(pc len:Nat)(p:List (Tm n))(C:Hid (p.length=len))(B:Nat)(w:ah)(g:Hid (p=[]\/∃b o,a=some ⟨b,o,none⟩/\b<B/\∀(i:Nat)(y:Tm n),p[i]?=some y->eg w b (o+i*4) n y/\In B w n y))(M:len<=9223372036854775807)(r:B<=w.heap.size):au 132 #[.agg #[ae h,ae I,af s,ag a len pc]] w λe w'=>e=aw (.bool (!(h==5) && !(h==6) && p.all λy=>aX n y))/\ap w w':=by
 cases h5:h==5
 case true=>
  go_enter func132,ntmps132;go_wp2_with fail
  go_ret
  exact⟨bZ (by simp),aV _ _⟩
 cases h6:h==6
 case true=>
  go_enter func132,ntmps132;go_wp2_with fail
  go_ret
  exact⟨bZ (by simp),aV _ _⟩
 have v:(!false && !false && p.all λy=>aX n y)=p.all λy=>aX n y:=by simp
 rw[v];clear v;go_enter func132,ntmps132;go_wp2_with fail;go_loopw [16] (λi wr=>∃k:Nat,k<=len/\i=ae k/\ap w wr/\Hid (((p.drop k).all λy=>aX n y)=p.all λy=>aX n y)) (λi _=>len-(intOf i).toNat)
 case atStart=>exact⟨0,by omega,rfl,aV _ _,rfl⟩
 case round=>
  obtain⟨k,J,rfl,d,t⟩:=hrel;by_cases F:k<len
  ·obtain⟨c,l⟩:∃c,p[k]?=some c:=⟨p[k]'(by rw[C.out];exact F),aU _⟩;have u:Hid (((p.drop k).all λy=>aX n y)=(aX n c && (p.drop (k+1)).all λy=>aX n y)):=by
    obtain⟨j,E⟩:=bi.1 l;rw[fp j,E];rfl
   rcases g.out with g|⟨N,po,rfl,G,g⟩
   ·subst g;simp at l
   obtain⟨m,q⟩:=g k c l;replace m:=m.below (d.mono r) G;replace q:=q.below (d.mono r);clear g l;cases n with
   | zero=>exact m.elim
   | succ n=>
   obtain⟨O,P,Q,R⟩:=m;have x:B<=wr.heap.size:=aF r d.size
   have D:Hid (∀f,ap wr f->au 132 #[.agg #[ae c.1.1,ae c.1.2.1,af c.1.2.2,ag c.2.1.1 c.2.2.length c.2.1.2]] f λe w'=>e=aw (.bool (aX (n+1) c))/\ap f w'):=
    λf j=>ih c B f (q.below (j.mono x)) (aF x j.size)
   clear ih q;generalize c.2.2.length=S at*;generalize aX (n+1) c=H at*;have K:(0:Int)<=(k:Int):=by omega
   have L:(k:Int)<(len:Int):=by omega
   go_wp2_with fail;refine(D _ (aV _ _)).mono ?_;rintro e f ⟨rfl,z⟩;have A:ap w f:=(d.trans ((aV _ _).mono d.size)).trans (z.mono (by have:=d.size;simp;omega));clear z;cases H with
   | true=>
    go_wp2_with fail;go_roundw
    case rel=>exact⟨k+1,by omega,by go_num,A,by rw[<-t.out,u.out];rfl⟩
    case measure=>simp[intOf];omega
   | false=>
    go_wp2_with fail
    go_ret
    exact⟨bZ (by rw[<-t.out,u.out];rfl),A⟩
  ·go_wp2_with fail
   go_ret
   refine⟨bZ ?_,d⟩;rw[<-t.out,km (by rw[C.out];omega)];rfl
theorem ja(n:Nat):PN n:=by
 induction n with
 | zero=>intro g b f a;exact a.elim
 | succ n ih=>
  intro g b f a i;obtain⟨⟨k,m,l⟩,⟨h,pc⟩,e⟩:=g;obtain⟨⟨_,_,_,j,d⟩,c⟩:=a;simp only at j d c;unfold maxLen at d;exact BJ n ih k m l h pc e.length e rfl b f c (by omega) i
def gJ:(n:Nat)->Tm n->Int
 | 0,_=>0
 | n+1,x=>if x.1.1=4 then 1+x.2.2.foldl (λm y=>max m (gJ n y)) 0 else 0
def uc(n:Nat)(p:List (Tm n))(k:Nat):Int:=(p.take k).foldl (λm y=>max m (gJ n y)) 0
theorem D9(n:Nat)(p:List (Tm n))(k:Nat)(x:Tm n)(b:p[k]?=some x):uc n p (k+1)=max (uc n p k) (gJ n x):=by
 obtain⟨c,a⟩:=bi.1 b;unfold uc;rw[lF c,a,nH];rfl
theorem qV{n:Nat}(N:Int):(l:List (Tm n))->(m:Int)->0<=m->m<=N->(∀y∈l,0<=gJ n y/\gJ n y<=N)->0<=l.foldl (λm y=>max m (gJ n y)) m/\l.foldl (λm y=>max m (gJ n y)) m<=N
 | [],_,h0,h1,_=>⟨h0,h1⟩
 | y::l,m,h0,h1,h=>by
  have c:=h y (by simp);exact qV N l (max m (gJ n y)) (by omega) (by omega) (λb a=>h b (by simp[a]))
theorem kV(l:List (Tm n))(y:Tm n)(c:y∈l):(aH n y).length<=(l.flatMap λy=>aH n y).length:=by
 obtain⟨a,d⟩:=di c;have b:=GN (λy=>aH n y) l (a+1);rw[Jo _ l a y d,bq]at b;omega
theorem ij:(n:Nat)->(x:Tm n)->0<=gJ n x/\gJ n x<=(aH n x).length
 | 0,_=>by simp[gJ]
 | n+1,x=>by
  have e:=qV ((x.2.2.flatMap λy=>aH n y).length:Int) x.2.2 0 (by omega) (by omega) (λy b=>by
   have c:=ij n y;have d:=kV x.2.2 y b
   omega)
  simp only[gJ,aH,bu];by_cases a:x.1.1=4
  ·rw[if_pos a];omega
  ·rw[if_neg a];omega
theorem BT(n:Nat)(p:List (Tm n))(k:Nat):0<=uc n p k/\uc n p k<=(p.flatMap λy=>aH n y).length:=
 qV _ (p.take k) 0 (by omega) (by omega) (λy a=>by
  have b:=ij n y;have c:=kV p y (List.mem_of_mem_take a)
  omega)
def PO(n:Nat):Prop:=∀(x:Tm n)(B:Nat)(w:ah),In B w n x->B<=w.heap.size->(aH n x).length<=2097152->
 au 78 #[dF n x] w λe w'=>e=aw (ae (gJ n x))/\ap w w'
theorem Ea(b d:Int)(s:aq)(a:ay)(len pc:Nat)(w:ah)(c:¬b=4):au 78 #[.agg #[ae b,ae d,af s,ag a len pc]] w λe w'=>e=aw (ae 0)/\ap w w':=by
 have f:(b !=4)=true:=by simpa using c
 clear c;go_enter func78,ntmps78;go_wp2_with fail
 go_ret
 exact⟨rfl,aV _ _⟩
theorem Hl(n:Nat)(ih:PO n)(P:Int)(s:aq)(a:ay)(pc len:Nat)(p:List (Tm n))(E:Hid (p.length=len))(B:Nat)(w:ah)(h:Hid (p=[]\/∃b o,a=some ⟨b,o,none⟩/\b<B/\∀(i:Nat)(y:Tm n),p[i]?=some y->eg w b (o+i*4) n y/\In B w n y))(T:len<=9223372036854775807)(u:B<=w.heap.size)(O:Hid (1+(p.flatMap λy=>aH n y).length<=2097152)):au 78 #[.agg #[ae 4,ae P,af s,ag a len pc]] w λe w'=> e=aw (ae (1+p.foldl (λm y=>max m (gJ n y)) 0))/\ap w w':=by
 go_enter func78,ntmps78;go_wp2_with fail;go_loopw [3,12] (λt i wr=>∃k:Nat,∃d:Int,k<=len/\i=ae k/\t=ae d/\Hid (d=uc n p k)/\ap w wr) (λ_ i _=>len-(intOf i).toNat)
 case atStart=>exact⟨0,0,by omega,rfl,rfl,by simp[Hid,uc],aV _ _⟩
 case round=>
  obtain⟨k,d,Q,rfl,rfl,v,f⟩:=hrel;have r:=BT n p k;rw[<-v.out]at r;have K:=O.out;have V:0<=d:=r.1;have W:d<=2097152:=by omega
  clear r;by_cases M:k<len
  ·obtain⟨c,j⟩:∃c,p[k]?=some c:=⟨p[k]'(by rw[E.out];exact M),aU _⟩;have I:=av (D9 n p k c j);have J:=kV p c (aT j);have F:(aH n c).length<=2097152:=by omega
   clear J K;rcases h.out with h|⟨U,po,rfl,N,h⟩
   ·subst h;simp at j
   obtain⟨l,q⟩:=h k c j;replace l:=l.below (f.mono u) N;replace q:=q.below (f.mono u);clear h j;cases n with
   | zero=>exact l.elim
   | succ n=>
   obtain⟨X,Y,Z,aa⟩:=l;have A:B<=wr.heap.size:=aF u f.size
   have G:Hid (∀g,ap wr g->au 78 #[.agg #[ae c.1.1,ae c.1.2.1,af c.1.2.2,ag c.2.1.1 c.2.2.length c.2.1.2]] g λe w'=>e=aw (ae (gJ (n+1) c))/\ap g w'):=
    λg z=>ih c B g (q.below (z.mono A)) (aF A z.size) F
   clear ih q F;generalize c.2.2.length=ab at*;generalize gJ (n+1) c=x at*;have R:(0:Int)<=(k:Int):=by omega
   have S:(k:Int)<(len:Int):=by omega
   go_wp2_with fail;refine(G _ (aV _ _)).mono ?_;rintro e g ⟨rfl,C⟩;have L:ap w g:=(f.trans ((aV _ _).mono f.size)).trans (C.mono (by have:=f.size;simp;omega));clear C;have D:max d x=if d<x then x else d:=by split<;>omega
   have H:=av D;clear D;go_wp2_with fail;go_roundw
   case rel=>exact⟨k+1,_,by omega,by go_num,rfl,by simp only[Hid];rw[I.out,<-v.out,H.out],L⟩
   case measure=>simp[intOf];omega
  ·go_wp2_with fail
   go_ret
   refine⟨jI ?_,f⟩;rw[v.out];unfold uc;rw[bG (by rw[E.out];omega)]
theorem Hk(n:Nat):PO n:=by
 induction n with
 | zero=>intro o i b g;exact g.elim
 | succ n ih=>
  intro o i b g q m;obtain⟨⟨k,e,d⟩,⟨c,pc⟩,a⟩:=o;obtain⟨⟨_,_,_,s,l⟩,j⟩:=g;simp only at s l j;unfold maxLen at l;have r:(aH (n+1) ((k,e,d),(c,pc),a)).length=1+(a.flatMap λh=>aH n h).length:=by simp only[aH,bu];omega
  rw[r]at m;show au 78 #[.agg #[ae k,ae e,af d,ag c a.length pc]] b λp u=>p=aw (ae (if k=4 then 1+a.foldl (λt h=>max t (gJ n h)) 0 else 0))/\ap b u;by_cases f:k=4
  ·subst f;exact Hl n ih e d c pc a.length a rfl i b j (by omega) q m
  ·rw[if_neg f];exact Ea k e d c a.length pc b f
def qD(n:Nat)(p:List (Tm n))(k:Nat):Int:=1+p.length+((p.take k).map λy=>sz n y).sum
theorem FI(n:Nat)(p:List (Tm n))(k:Nat)(x:Tm n)(b:p[k]?=some x):qD n p (k+1)=qD n p k+sz n x:=by
 obtain⟨c,a⟩:=bi.1 b;unfold qD;rw[lF c,a];simp;omega
theorem Jn(n:Nat)(l:List (Tm n)):(l.map λy=>1+sz n y).sum=l.length+(l.map λy=>sz n y).sum:=by
 induction l with
 | nil=>simp
 | cons y l ih=>simp only[bA,dj,bu,ih];omega
theorem Jy(n:Nat)(p:List (Tm n))(k:Nat)(a:p.length<=k):qD n p k=1+(p.map λy=>1+sz n y).sum:=by
 unfold qD;rw[bG a,Jn];omega
theorem yy(n:Nat)(p:List (Tm n)):p.length<=(p.flatMap λy=>aH n y).length:=by
 induction p with
 | nil=>simp
 | cons y l ih=>
  have:1<=(aH n y).length:=by cases n<;>simp[aH]
  simp only[bL,bq,bu];omega
theorem Dw(n:Nat)(p:List (Tm n))(k:Nat):0<=qD n p k/\qD n p k<=3*(1+(p.flatMap λy=>aH n y).length:Int):=by
 have b:=yy n p;have a:=GN (λy=>aH n y) p k;have key:∀l:List (Tm n),0<=(l.map λy=>sz n y).sum/\(l.map λy=>sz n y).sum<=2*((l.flatMap λy=>aH n y).length:Int):=by
  intro l
  induction l with
  | nil=>exact⟨by simp,by simp⟩
  | cons y l ih=>
   have c:=fI n y;simp only[bA,dj,bL,bq];exact⟨by omega,by omega⟩
 have k:=key (p.take k);unfold qD;exact⟨by omega,by omega⟩
def QT(n:Nat):Prop:=∀(x:Tm n)(B:Nat)(w:ah),In B w n x->B<=w.heap.size->(aH n x).length<=2097152->
 au 79 #[dF n x] w λe w'=>e=aw (ae (sz n x))/\ap w w'
theorem FH(b d:Int)(s:aq)(a:ay)(len pc:Nat)(w:ah)(c:¬b=4):au 79 #[.agg #[ae b,ae d,af s,ag a len pc]] w λe w'=>e=aw (ae 0)/\ap w w':=by
 have f:(b !=4)=true:=by simpa using c
 clear c;go_enter func79,ntmps79;go_wp2_with fail
 go_ret
 exact⟨rfl,aV _ _⟩
theorem Jx(n:Nat)(ih:QT n)(M:Int)(s:aq)(a:ay)(pc len:Nat)(p:List (Tm n))(l:Hid (p.length=len))(B:Nat)(w:ah)(g:Hid (p=[]\/∃b o,a=some ⟨b,o,none⟩/\b<B/\∀(i:Nat)(y:Tm n),p[i]?=some y->eg w b (o+i*4) n y/\In B w n y))(v:B<=w.heap.size)(D:Hid (1+(p.flatMap λy=>aH n y).length<=2097152)):au 79 #[.agg #[ae 4,ae M,af s,ag a len pc]] w λe w'=> e=aw (ae (1+(p.map λy=>1+sz n y).sum))/\ap w w':=by
 have S:len<=2097152:=by have u:=yy n p;have O:=D.out;rw[<-l.out];omega
 go_enter func79,ntmps79;go_wp2_with fail;go_loopw [3,16] (λt i wr=>∃k:Nat,∃h:Int,k<=len/\i=ae k/\t=ae h/\Hid (h=qD n p k)/\ap w wr) (λ_ i _=>len-(intOf i).toNat)
 case atStart=>exact⟨0,1+len,by omega,rfl,rfl,by simp only[Hid,qD];rw[l.out];simp,aV _ _⟩
 case round=>
  obtain⟨k,h,P,rfl,rfl,x,d⟩:=hrel;have r:=Dw n p k;rw[<-x.out]at r;have I:=D.out;have U:0<=h:=r.1;have V:h<=6291456:=by omega
  clear r;by_cases K:k<len
  ·obtain⟨c,j⟩:∃c,p[k]?=some c:=⟨p[k]'(by rw[l.out];exact K),aU _⟩;have G:=av (FI n p k c j);have H:=kV p c (aT j);have E:(aH n c).length<=2097152:=by omega
   have z:=fI n c;have ab:0<=sz n c:=z.1;have ad:sz n c<=4194304:=by omega
   clear H I z;rcases g.out with g|⟨T,po,rfl,L,g⟩
   ·subst g;simp at j
   obtain⟨m,q⟩:=g k c j;replace m:=m.below (d.mono v) L;replace q:=q.below (d.mono v);clear g j;cases n with
   | zero=>exact m.elim
   | succ n=>
   obtain⟨W,X,Y,Z⟩:=m;have A:B<=wr.heap.size:=aF v d.size
   have F:Hid (∀f,ap wr f->au 79 #[.agg #[ae c.1.1,ae c.1.2.1,af c.1.2.2,ag c.2.1.1 c.2.2.length c.2.1.2]] f λe w'=>e=aw (ae (sz (n+1) c))/\ap f w'):=
    λf u=>ih c B f (q.below (u.mono A)) (aF A u.size) E
   clear ih q E;generalize c.2.2.length=aa at*;generalize sz (n+1) c=N at*;have Q:(0:Int)<=(k:Int):=by omega
   have R:(k:Int)<(len:Int):=by omega
   go_wp2_with fail;refine(F _ (aV _ _)).mono ?_;rintro e f ⟨rfl,C⟩;have J:ap w f:=(d.trans ((aV _ _).mono d.size)).trans (C.mono (by have:=d.size;simp;omega));clear C;go_wp2_with fail;go_roundw
   case rel=>exact⟨k+1,h+N,by omega,by go_num,by go_num,by simp only[Hid];rw[G.out,<-x.out],J⟩
   case measure=>simp[intOf];omega
  ·go_wp2_with fail
   go_ret
   refine⟨jI ?_,d⟩;rw[x.out,Jy n p k (by rw[l.out];omega)]
theorem zv(n:Nat):QT n:=by
 induction n with
 | zero=>intro m i b g;exact g.elim
 | succ n ih=>
  intro m i b g p l;obtain⟨⟨k,e,d⟩,⟨c,pc⟩,a⟩:=m;obtain⟨⟨_,_,_,s,r⟩,j⟩:=g;simp only at s r j;have q:(aH (n+1) ((k,e,d),(c,pc),a)).length=1+(a.flatMap λh=>aH n h).length:=by simp only[aH,bu];omega
  rw[q]at l;show au 79 #[.agg #[ae k,ae e,af d,ag c a.length pc]] b λo t=>o=aw (ae (if k=4 then 1+(a.map λh=>1+sz n h).sum else 0))/\ap b t;by_cases f:k=4
  ·subst f;exact Jx n ih e d c pc a.length a rfl i b j p l
  ·rw[if_neg f];exact FH k e d c a.length pc b f
theorem Dt(w:ah)(k g:Int)(s:aq)(a:ay)(l c:Nat)(j:Bool)(d n:Int)(D:Hid (∀w1,ap w w1->au 77 #[.agg #[ae k,ae g,af s,ag a l c]] w1 λe w'=>e=aw (.bool j)/\ap w1 w'))(C:Hid (∀w1,ap w w1->au 78 #[.agg #[ae k,ae g,af s,ag a l c]] w1 λe w'=>e=aw (ae d)/\ap w1 w'))(E:Hid (∀w1,ap w w1->au 79 #[.agg #[ae k,ae g,af s,ag a l c]] w1 λe w'=>e=aw (ae n)/\ap w1 w')):au 53 #[.agg #[ae k,ae g,af s,ag a l c]] w λe w'=>e=aw (ae (if j then if 12<d\/200<n then 2 else 0 else 5))/\ap w w':=by
 generalize A:(if j then if 12<d\/200<n then (2:Int)else 0 else 5)=I;have i:=av A;clear A;go_enter func53,ntmps53;go_wp2_with fail;refine(D _ (aV _ _)).mono ?_;rintro e w1 ⟨rfl,m⟩;have f:Hid (ap w w1/\w.heap.size+1<=w1.heap.size):=⟨(aV _ _).trans (m.mono (by simp)),by have:=m.size;simpa using this⟩;have b:=aB m;simp only[fO]at b;have t:=(b w.heap.size 0 (by omega)).trans (by simp[go_sem]:_=some (Value.int .i64 k));have u:=(b w.heap.size 1 (by omega)).trans (by simp[go_sem]:_=some (Value.int .i64 g));have v:=(b w.heap.size 2 (by omega)).trans (by simp[go_sem]:_=some (Value.string s));have x:=(b w.heap.size 3 (by omega)).trans (by simp[go_sem]:_=some (Value.slice a l c));clear b m;cases j with
 | false=>
  go_wp2_with fail
  go_ret
  exact⟨jI (by rw[<-i.out];rfl),f.1⟩
 | true=>
  go_wp2_with fail;refine(C _ f.1).mono ?_;rintro e G ⟨rfl,q⟩;have h:Hid (ap w G):=f.1.trans (q.mono f.1.size);have b:=aB q;have F:=f.2;replace t:=(b w.heap.size 0 (by omega)).trans t;replace u:=(b w.heap.size 1 (by omega)).trans u;replace v:=(b w.heap.size 2 (by omega)).trans v;replace x:=(b w.heap.size 3 (by omega)).trans x;clear b q F;by_cases y:12<d
  ·have o:=av y;go_wp2_with fail
   go_ret
   exact⟨jI (by rw[<-i.out,if_pos trivial,if_pos (ak o.out)]),h⟩
  ·have o:=av y;go_wp2_with fail;refine(E _ h).mono ?_;rintro e H ⟨rfl,z⟩;have r:Hid (ap w H):=h.trans (z.mono h.size);clear z;by_cases B:200<n
   ·have p:=av B;go_wp2_with fail
    go_ret
    exact⟨jI (by rw[<-i.out,if_pos trivial,if_pos (am p.out)]),r⟩
   ·have p:=av B;go_wp2_with fail
    go_ret
    exact⟨jI (by rw[<-i.out,if_pos trivial,if_neg (by have:=o.out;have:=p.out;omega)]),r⟩
def xO(n:Nat)(x:Tm n):Int:=if cv n x then if 12<gJ n x\/200<sz n x then 2 else 0 else 5
theorem Ds(n:Nat)(x:Tm n)(B:Nat)(w:ah)(d:In B w n x)(b:B<=w.heap.size)(f:(aH n x).length<=2097152):au 53 #[dF n x] w λe w'=>e=aw (ae (xO n x))/\ap w w':=by
 cases n with
 | zero=>exact d.elim
 | succ n=>
 exact Dt w x.1.1 x.1.2.1 x.1.2.2 x.2.1.1 x.2.2.length x.2.1.2 (cv (n+1) x) (gJ (n+1) x) (sz (n+1) x)
  (λc a=>Ev (n+1) x B c (d.below (a.mono b)) (aF b a.size))
  (λc a=>Hk (n+1) x B c (d.below (a.mono b)) (aF b a.size) f)
  (λc a=>zv (n+1) x B c (d.below (a.mono b)) (aF b a.size) f)
theorem mw:(n:Nat)->(x:Tm n)->cv n x=(aH n x).all cM
 | 0,_=>by simp[cv,aH,cM]
 | n+1,x=>by
  have e:(aH (n+1) x).all cM=(cM (bQ n x) && (x.2.2.flatMap λy=>aH n y).all cM):=rfl;rw[e];simp only[cv];cases hg:cM (bQ n x)
  ·rfl
  ·rw[eT,eT];by_cases b:x.1.1=4
   ·rw[b];have key:∀l:List (Tm n),(l.all λy=>cv n y)=(l.flatMap λy=>aH n y).all cM:=by
     intro l
     induction l with
     | nil=>rfl
     | cons y l ih=>simp only[jw,bL,lw,ih,mw n y]
    rw[key];simp
   ·have c:x.2.2=[]:=by
      unfold cM at hg;simp only[aS,ki,cT]at hg;rcases hg.2 with a|a
      ·exact(b a).elim
      ·have:¬(0:Int)<(x.2.2.length:Int):=by simpa [bQ]using a
       exact b8 (by omega)
    rw[c];simp
def oF:List Nd->List Int->Int->Int
 | x::l,d::ds,m=>oF l ds (mH x d m)
 | _,_,m=>m
theorem BC(g:Int):(l:List Nd)->(b:List Int)->(m:Int)->l.length=b.length->uF g l b m=if l.all cM then (if 12<oF l b m\/200<g then 2 else 0)else 5
 | [],_,_,_=>rfl
 | x::l,[],_,a=>by simp at a
 | x::l,d::b,m,a=>by
  have ih:=BC g l b (mH x d m) (by simpa using a);simp only[uF,oF];by_cases f:cM x=true
  ·have e:(x::l).all cM=l.all cM:=by simp[f]
   rw[if_pos f,ih];by_cases c:l.all cM=true
   ·rw[if_pos c,if_pos (e.trans c)];rfl
   ·rw[if_neg c,if_neg (λa=>c (e.symm.trans a))]
  ·rw[if_neg f,if_neg (λa=>f (cY.1 a x (by simp)))]
theorem r7:(l r:List Nd)->(a es:List Int)->(m:Int)->l.length=a.length->oF (l++r) (a++es) m=oF r es (oF l a m)
 | [],_,[],_,_,_=>rfl
 | [],_,_::_,_,_,h=>by simp at h
 | _::_,_,[],_,_,h=>by simp at h
 | x::l,r,d::a,es,m,h=>by
  simp only[fK,oF];exact r7 l r a es _ (by simpa using h)
theorem Cd{n:Nat}(c:Int):(p:List (Tm n))->(m e:Int)->p.foldl (λm y=>max m (c+gJ n y)) (max m (c+e))=max m (c+p.foldl (λm y=>max m (gJ n y)) e)
 | [],_,_=>rfl
 | y::p,m,e=>by
  simp only[gg];have a:max (max m (c+e)) (c+gJ n y)=max m (c+max e (gJ n y)):=by omega
  rw[a];exact Cd c p m (max e (gJ n y))
theorem BR:(n:Nat)->(x:Tm n)->(d m:Int)->(∀a∈aH n x,cM a=true)->d<=m->oF (aH n x) (qy n x d) m=max m (d+gJ n x)
 | 0,x,_,_,h,_=>by
  have:=h ((0,0,.empty),(none,0,0)) (by simp[aH]);rcases lg _ this with g|g|g|g|g|⟨g,_⟩<;>simp at g
 | n+1,x,d,m,h,k=>by
  have f:=h (bQ n x) (by simp[aH,bQ]);have key:∀(p:List (Tm n))(m:Int),(∀y∈p,y∈x.2.2)->d+1<=m->oF (p.flatMap λy=>aH n y) (p.flatMap λy=>qy n y (d+1)) m=p.foldl (λm y=>max m (d+1+gJ n y)) m:=by
   intro p
   induction p with
   | nil=>intro m _ _;rfl
   | cons y p ih=>
    intro m l k;simp only[bL,gg];rw[r7 _ _ _ _ _ (kR n y (d+1)).symm,BR n y (d+1) m (λa q=>h a (nu (l y (by simp)) q)) k];exact ih _ (λu t=>l u (by simp[t])) (by omega)
  have o:oF (aH (n+1) x) (qy (n+1) x d) m=oF (x.2.2.flatMap λy=>aH n y) (x.2.2.flatMap λy=>qy n y (d+1)) (mH (bQ n x) d m):=rfl;rw[o];simp only[gJ];by_cases b:x.1.1=4
  ·rw[if_pos b];have c:mH (bQ n x) d m=max m (d+1+0):=by
    unfold mH bQ;by_cases j:m<d+1
    ·rw[if_pos ⟨b,j⟩];omega
    ·rw[if_neg (λi=>j i.2)];omega
   rw[c,key x.2.2 _ (λ_ s=>s) (by omega),Cd];omega
  ·rw[if_neg b];have r:x.2.2=[]:=by
    unfold cM at f;simp only[aS,ki,cT]at f;rcases f.2 with e|e
    ·exact(b e).elim
    ·have:¬(0:Int)<(x.2.2.length:Int):=by simpa [bQ]using e
     exact b8 (by omega)
   have c:mH (bQ n x) d m=m:=Hj _ (λi=>b i.1);rw[r,c];simp only[List.flatMap_nil,oF];omega
theorem gN(n:Nat)(x:Tm n):xO n x=bK n x:=by
 unfold xO bK;rw[BC _ _ _ _ (kR n x 0).symm,<-mw n x];by_cases a:cv n x=true
 ·rw[if_pos a,if_pos a];have d:∀b∈aH n x,cM b=true:=by
   rw[mw n x]at a;exact λb c=>cY.1 a b c
  have e:=ij n x;rw[BR n x 0 0 d (by omega)];have:max (0:Int) (0+gJ n x)=gJ n x:=by omega
  rw[this]
 ·rw[if_neg a,if_neg a]
theorem dW(n:Nat)(x:Tm n)(B:Nat)(w:ah)(c:In B w n x)(a:B<=w.heap.size)(b:(aH n x).length<=2097152):au 53 #[dF n x] w λe w'=>e=aw (ae (bK n x))/\ap w w':=by
 rw[<-gN];exact Ds n x B w c a b
def CP(n:Nat)(y:Tm n):Bool:=bK n y==0 && (ci ⟨n,y⟩==6 || kQ n y)
def gG(n:Nat)(q:List (Tm n)):Bool:=decide (q.length=4) && q.all (CP n)
def fU(B:Nat)(w:ah)(n:Nat)(q:List (Tm n))(a:ay):Prop:=
 q=[]\/∃b o,a=some ⟨b,o,none⟩/\b<B/\∀(d:Nat)(c:Tm n),q[d]?=some c->eg w b (o+d*4) n c/\In B w n c
theorem fU.below{B:Nat}{w w':ah}(d:Below B w w'){n:Nat}{q:List (Tm n)}{a:ay}(k:fU B w n q a):fU B w' n q a:=by
 rcases k with c|⟨b,o,i,e,c⟩
 ·exact ak c
 ·exact am ⟨b,o,i,e,λg h f=>⟨(c g h f).1.below d e,(c g h f).2.below d⟩⟩
theorem rV(f:d->Bool)(q:List d)(k:Nat)(y:d)(b:q[k]?=some y):(q.drop k).all f=(f y && (q.drop (k+1)).all f):=by
 obtain⟨c,a⟩:=bi.1 b;rw[fp c,a];rfl
theorem ML(a:ay)(len pc:Nat)(w:ah)(_hl:len<=9223372036854775807)(b:((len:Int) !=4)=true):au 225 #[ag a len pc] w λe w'=>e=aw (.bool false)/\w'=w:=by
 go_enter func225,ntmps225;go_wp2_with fail
 go_ret
 exact⟨rfl,rfl⟩
theorem G2(n:Nat)(q:List (Tm n))(z po pc:Nat)(B:Nat)(w:ah)(L:Hid (q.length=4))(R:z<B)(K:∀(i:Nat)(y:Tm n),q[i]?=some y->eg w z (po+i*4) n y/\In B w n y)(H:∀y∈q,(aH n y).length<=2097152)(C:B<=w.heap.size):au 225 #[ag (some ⟨z,po,none⟩) 4 pc] w λe w'=>e=aw (.bool (q.all (CP n)))/\ap w w':=by
 go_enter func225,ntmps225;go_wp2_with fail;go_loopw [10] (λi wr=>∃k:Nat,k<=4/\i=ae k/\ap w wr/\Hid ((q.drop k).all (CP n)=q.all (CP n))) (λi _=>4-(intOf i).toNat)
 case atStart=>exact⟨0,by omega,rfl,aG _ _,rfl⟩
 case round=>
  obtain⟨k,X,rfl,c,l⟩:=hrel;by_cases Q:k<4
  ·obtain⟨a,v⟩:∃a,q[k]?=some a:=⟨q[k]'(by rw[L.out];exact Q),aU _⟩;have s:=av (rV (CP n) q k a v);obtain⟨x,m⟩:=K k a v;have I:=H a (aT v);replace x:=x.below (c.mono C) R;replace m:=m.below (c.mono C);clear K v H;cases n with
   | zero=>exact x.elim
   | succ n=>
   obtain⟨T,U,V,W⟩:=x;have t:B<=wr.heap.size:=aF C c.size
   have F:Hid (∀b,ap wr b->au 53 #[.agg #[ae a.1.1,ae a.1.2.1,af a.1.2.2,ag a.2.1.1 a.2.2.length a.2.1.2]] b λe w'=>e=aw (ae (bK (n+1) a))/\ap b w'):=
    λb j=>dW (n+1) a B b (m.below (j.mono t)) (aF t j.size) I
   have N:Hid (∀b,ap wr b->au 132 #[.agg #[ae a.1.1,ae a.1.2.1,af a.1.2.2,ag a.2.1.1 a.2.2.length a.2.1.2]] b λe w'=>e=aw (.bool (aX (n+1) a))/\ap b w'):=
    λb j=>ja (n+1) a B b (m.below (j.mono t)) (aF t j.size)
   have r:Hid (CP (n+1) a=(bK (n+1) a==0 && (a.1.1==6 || aX (n+1) a))):=by unfold Hid CP;rw[fQ];rfl
   clear m I;generalize a.2.2.length=ab at*;generalize aX (n+1) a=cl at*;generalize bK (n+1) a=h at*;generalize CP (n+1) a=ok at*;have Y:(0:Int)<=(k:Int):=by omega
   have Z:(k:Int)<(4:Int):=by omega
   have aa:z<wr.heap.size:=by omega
   have E:Hid (∀o,ap wr (wr.alloc o)):=λo=>aV _ _;go_wp2_with fail;refine(F _ (E _)).mono ?_;rintro e b ⟨rfl,u⟩;obtain⟨⟨t0,t1,t2,t3⟩,_⟩:=F6 u;have A:Hid (ap wr b):=(E _).trans (u.mono (by simp));have O:Hid (wr.heap.size<b.heap.size):=by have:=u.size;simp at this;unfold Hid;omega
   clear u T U V W F;by_cases f:h=0
   ·have P:(h !=0)=false:=by simp[f]
    have g:Hid (h=0):=f;clear f;go_wp2_with fail;refine(jS _ _ _ _ _ _ _).mono ?_;rintro e M ⟨rfl,D⟩;obtain⟨t4,t5,t6,t7⟩:=oT O D ⟨t0,t1,t2,t3⟩;have p:Hid (ap wr M):=A.trans (D.mono A.size);clear D t0 t1 t2 t3;cases G:a.1.1==6
    ·simp only[Bool.not_false];go_wp2_with fail;refine(N _ p).mono ?_;rintro e S ⟨rfl,J⟩;have d:ap w S:=c.trans ((p.trans (J.mono p.size)).mono c.size);clear J;cases cl with
     | true=>
      go_wp2_with fail;go_roundw
      case rel=>exact⟨k+1,by omega,by go_num,d,by rw[<-l.out,s.out,r.out,g.out];simp[Hid]⟩
      case measure=>simp[intOf];omega
     | false=>
      go_wp2_with fail
      go_ret
      exact⟨gd (by rw[<-l.out,s.out,r.out,g.out,G];simp),d⟩
    ·simp only[Bool.not_true];have d:ap w M:=c.trans (p.mono c.size);go_wp2_with fail;go_roundw
     case rel=>exact⟨k+1,by omega,by go_num,d,by rw[<-l.out,s.out,r.out,g.out,G];simp[Hid]⟩
     case measure=>simp[intOf];omega
   ·have P:(h !=0)=true:=by simpa using f
    have g:Hid ((h==0)=false):=by simpa [Hid]using f
    have d:ap w b:=c.trans (A.mono c.size);clear f;go_wp2_with fail
    go_ret
    exact⟨gd (by rw[<-l.out,s.out,r.out,g.out];simp),d⟩
  ·go_wp2_with fail
   go_ret
   refine⟨gd ?_,c⟩;rw[<-l.out,km (by rw[L.out];omega)];rfl
theorem Bv(n:Nat)(q:List (Tm n))(a:ay)(pc B:Nat)(w:ah)(d:fU B w n q a)(i:q.length<=9223372036854775807)(g:∀y∈q,(aH n y).length<=2097152)(f:B<=w.heap.size):au 225 #[ag a q.length pc] w λe w'=>e=aw (.bool (gG n q))/\ap w w':=by
 unfold gG;by_cases c:q.length=4
 ·rcases d with d|⟨b,o,rfl,h,j⟩
  ·rw[d]at c;simp at c
  ·have k:=G2 n q b o pc B w c h j g f;rw[c];simpa using k
 ·refine(ML a q.length pc w i (by simp;omega)).mono ?_;rintro e w' ⟨rfl,rfl⟩;exact⟨by simp[c],aG _ _⟩
def bj:(N:Nat)->(n:Nat)->Tm n->Tm N
 | 0,_,_=>()
 | _+1,0,_=>((0,0,.empty),(none,0),[])
 | N+1,n+1,x=>(x.1,x.2.1,x.2.2.map λy=>bj N n y)
theorem Nx(N n:Nat)(x:Tm (n+1)):gL (N+1) (bj (N+1) (n+1) x)=gL (n+1) x:=by simp[gL,bQ,bj]
theorem yz(N n:Nat)(g:n<=N)(x:Tm n)(w:ah)(b o:Nat)(k:eg w b o n x):eg w b o N (bj N n x):=by
 cases n with
 | zero=>exact k.elim
 | succ n=>
  obtain⟨N,rfl⟩:∃a,N=a+1:=⟨N-1,by omega⟩;obtain⟨c,d,e,f⟩:=k;exact⟨c,d,e,by simpa [bj]using f⟩
theorem pP:(N n:Nat)->n<=N->(x:Tm n)->(B:Nat)->(w:ah)->In B w n x->In B w N (bj N n x)
 | _,0,_,_,_,_,k=>k.elim
 | 0,n+1,h,_,_,_,_=>by omega
 | N+1,n+1,h,x,B,w,k=>by
  obtain⟨j,a⟩:=k;refine⟨by simpa [bj]using j,?_⟩;rcases a with a|⟨b,o,e,g,a⟩
  ·exact ak (by simp[bj,a])
  ·refine am ⟨b,o,e,g,λi y d=>?_⟩;simp only[bj,dh]at d;obtain⟨c,f,rfl⟩:=cI.1 d;exact⟨yz N n (by omega) c w b _ (a i c f).1,pP N n (by omega) c B w (a i c f).2⟩
theorem oe:(N n:Nat)->n<=N->(x:Tm (n+1))->aH (N+1) (bj (N+1) (n+1) x)=aH (n+1) x
 | N,0,_,x=>by
  have:∀l:List (Tm 0),(l.map λy=>bj N 0 y).flatMap (λy=>aH N y)=l.flatMap λy=>aH 0 y:=by
   intro l
   induction l with
   | nil=>rfl
   | cons a l ih=>
    simp only[bA,bL,ih];congr 1;cases N with
    | zero=>rfl
    | succ N=>simp[bj,aH]
  simp only[aH,bj,cE,this]
 | 0,n+1,h,_=>by omega
 | N+1,n+1,h,x=>by
  have:∀l:List (Tm (n+1)),(l.map λy=>bj (N+1) (n+1) y).flatMap (λy=>aH (N+1) y)=l.flatMap λy=>aH (n+1) y:=by
   intro l
   induction l with
   | nil=>rfl
   | cons a l ih=>
    simp only[bA,bL,ih];rw[oe N n (by omega) a]
  have b:aH (N+2) (bj (N+2) (n+2) x)=(x.1,(x.2.1.1,(x.2.2.map λy=>bj (N+1) (n+1) y).length,x.2.1.2))::(x.2.2.map λy=>bj (N+1) (n+1) y).flatMap λy=>aH (N+1) y:=rfl;rw[b,this];simp[aH]
def nQ(b:List An):Nat:=b.foldr (λa m=>max a.1 m) 0
theorem A2(b:List An):∀a∈b,a.1<=nQ b:=by
 induction b with
 | nil=>intro a d;cases d
 | cons c b ih=>
  intro a d;simp only[nQ,List.foldr_cons];rcases cq.1 d with rfl|d
  ·omega
  ·have:=ih a d;unfold nQ at this;omega
def DA(b:List An):List (Tm (nQ b)):=b.map λa=>bj (nQ b) a.1 a.2
theorem Ml(b:List An)(i:Nat)(y:Tm (nQ b))(c:(DA b)[i]?=some y):∃a,b[i]?=some a/\a.1<=nQ b/\y=bj (nQ b) a.1 a.2:=by
 simp only[DA,dh]at c;obtain⟨a,d,rfl⟩:=cI.1 c;exact⟨a,d,A2 b a (aT d),rfl⟩
theorem Mn(e:nS base g c b w)(k:∀y∈b,GW B w y)(j:B<=w.heap.size):fU w.heap.size w (nQ b) (DA b) (some ⟨g,0,none⟩):=by
 refine am ⟨g,0,rfl,e.lt.2,λa y m=>?_⟩;obtain⟨d,f,i,rfl⟩:=Ml b a y m;have h:=k d (aT f);refine⟨?_,(pP _ _ i _ _ _ h).mono j⟩;obtain⟨n,o⟩:=d;have l:=e.cells a _ f;cases n with
 | zero=>exact h.elim
 | succ n=>
  rw[cB];exact yz _ _ i o w g (a*4) l
theorem JH(f:∀y∈b,aL y/\y.1≠0):∀y∈DA b,aL ⟨nQ b,y⟩:=by
 intro y k;obtain⟨m,h⟩:=di k;obtain⟨e,g,i,rfl⟩:=Ml b m y h;have j:=f e (aT g);obtain⟨n,o⟩:=e;cases n with
 | zero=>exact(j.2 rfl).elim
 | succ n=>
  intro p c;clear h k g f;generalize nQ b=d at*;obtain⟨a,rfl⟩:∃a,d=a+1:=⟨d-1,by simp only at i;omega⟩;have l:=oe a n (by simp only at i;omega) o;simp only at c;rw[l]at c;exact j.1 p c
theorem jr{c d:Type}(f:c->d->Bool):(p:List c)->(q:List d)->(x:c)->(y:d)->aN f p q=true->f x y=true->aN f (p++ [x]) (q++ [y])=true
 | [],[],x,y,_,h=>by simp[aN,h]
 | [],_::_,_,_,h,_=>by simp[aN]at h
 | _::_,[],_,_,h,_=>by simp[aN]at h
 | a::p,b::q,x,y,h,k=>by
  simp only[aN,aS,fK]at h ⊢;exact⟨h.1,jr f p q x y h.2 k⟩
theorem cW{c d:Type}(f:c->d->Bool):(p:List c)->(q:List d)->aN f p q=true->p.length=q.length
 | [],[],_=>rfl
 | [],_::_,h=>by simp[aN]at h
 | _::_,[],h=>by simp[aN]at h
 | a::p,b::q,h=>by
  simp only[aN,aS]at h;simp[cW f p q h.2]
def zA:An:=⟨1,((0,0,.empty),(none,0),[])⟩
theorem ID(n:Nat):(madeCells #[ae 0,ae 0,af .empty,ag none 0 0] (n*4)).toList=gq (List.replicate n zA):=by
 apply nG;intro b;by_cases e:b<n*4
 ·obtain⟨k,a,f,rfl⟩:∃k a,a<4/\b=k*4+a:=⟨b / 4,b % 4,Nat.mod_lt _ (by decide),by omega⟩;have g:k<n:=by omega
  have c:(gq (List.replicate n zA))[k*4+a]?=(wL (uo zA))[a]? :=jj _ k (uo zA) (by simp[g]) a f;rw[c];have d:(madeCells #[ae 0,ae 0,af .empty,ag none 0 0] (n*4))[k*4+a]?=some ((#[ae 0,ae 0,af .empty,ag none 0 0]:Array az)[(k*4+a) % 4]!):=by
   simp[madeCells,e]
  rw[nE,d,show (k*4+a) % 4=a by omega];have:a=0\/a=1\/a=2\/a=3:=by omega
  rcases this with rfl|rfl|rfl|rfl<;>rfl
 ·rw[ft (by simp[size_madeCells];omega),ft (by rw[lO];simp;omega)]
def vn(n:Nat)(p:List (Tm n))(len g k:Nat)(l:List (Tm n))(wr:ah):Prop:=
 l.length=k/\nS g g len (l.map (λe=>(⟨n,e⟩:An))++List.replicate (len-k) zA) wr/\(∀a∈l,In wr.heap.size wr n a/\cF (λd=>g<d) n a)/\aN (λc b=>aJ n c n b) l (p.take k)=true
theorem vn.step{p:List (Tm n)}{l:List (Tm n)}(j:vn n p len g k l wr)(w:k<len)(x:Tm n)(u:p[k]?=some x)(c:ap wr w1)(y:Tm n)(v:In w1.heap.size w1 n y)(h:cF (λq=>g<q) n y)(s:aJ n y n x=true):vn n p len g (k+1) (l++ [y]) (jX w1 g (k*4) (gL n y)):=by
 obtain⟨e,m,b,o⟩:=j;have f:=(m.below c).put k ⟨n,y⟩ (by simp;omega);have i:(l.map (λx=>(⟨n,x⟩:An))++List.replicate (len-k) zA).set k ⟨n,y⟩=(l++ [y]).map (λx=>(⟨n,x⟩:An))++List.replicate (len-(k+1)) zA:=by
  rw[iL _ _ (by simp;omega)];have:len-k=(len-(k+1))+1:=by omega
  rw[this,List.replicate_succ];simp[e]
 rw[i]at f;refine⟨by simp[e],f,?_,?_⟩
 ·intro d a;have t:(jX w1 g (k*4) (gL n y)).heap.size=w1.heap.size:=bJ _ _ _ _;rw[t];rcases du.1 a with a|a
  ·exact⟨In.off (λq r=>bw (by omega) _ _ _ _) (b d a).2 (((b d a).1.below c).mono c.size),(b d a).2⟩
  ·simp only[dO]at a;subst a;exact⟨In.off (λq r=>bw (by omega) _ _ _ _) h v,h⟩
 ·rw[dK,u];exact jr _ _ _ _ _ o s
def ig(n:Nat)(p:List (Tm n))(w w':ah)(a:ay)(c:Nat)(l:List (Tm n)):Prop:=
 ap w w'/\l.length=p.length/\l.length<=c/\c<=maxLen/\aN (λa b=>aJ n a n b) l p=true/\
 (l=[]\/∃b o,a=some ⟨b,o,none⟩/\(w.heap.size<=b/\o=0/\(∀g,w'.frozen? ⟨b,g,none⟩=false)/\∀d∈l,cF (λe=>e≠b) n d)/\b<w'.heap.size/\∀(f:Nat)(d:Tm n),l[f]?=some d->eg w' b (o+f*4) n d/\In w'.heap.size w' n d/\cF (λe=>w.heap.size<=e) n d)
theorem vn.done{p:List (Tm n)}{l:List (Tm n)}(f:vn n p len w.heap.size k l wr)(u:p.length=len)(j:k=len)(g:ap w wr)(m:len<=maxLen):ig n p w wr (some ⟨w.heap.size,0,none⟩) len l:=by
 obtain⟨t,c,d,e⟩:=f;subst j;rw[bG (by omega)]at e;rw[ir,nM,eE]at c;refine⟨g,by omega,by omega,m,e,am ⟨w.heap.size,0,rfl,⟨aA _,rfl,λr=>c.free r,λb a=>(d b a).2.mono λs o=>by omega⟩,c.lt.2,λq b a=>⟨?_,(d b (aT a)).1,(d b (aT a)).2.mono λs o=>by omega⟩⟩⟩;have h:=c.cells q ⟨n,b⟩ (by simp[a]);have i:=(d b (aT a)).1;cases n with
 | zero=>exact i.elim
 | succ n=>
  rw[cB];exact h
def Qw(n:Nat):Prop:=∀(x:Tm n)(B:Nat)(w:ah),In B w n x->B<=w.heap.size->aL ⟨n,x⟩->
 au 91 #[dF n x] w λe w'=>∃y:Tm n,e=aw (dF n y)/\Hid (ap w w'/\In w'.heap.size w' n y/\cF (λq=>w.heap.size<=q) n y/\aJ n y n x=true)
theorem vz{t:aq}(b:(s.toList==t.toList)=true):s=t:=by
 have a:s.toList=t.toList:=by simpa using b
 rw[cD,cD]at a;cases s;cases t;simp only at a;rw[Array.toList_inj.1 a]
theorem bU{x:Tm (n+1)}{y:Tm (m+1)}(c:aJ (n+1) x (m+1) y=true):x.1=y.1/\aN (λa b=>aJ n a m b) x.2.2 y.2.2=true:=by
 simp only[aJ,aS,cT]at c;obtain⟨⟨⟨d,e⟩,f⟩,g⟩:=c;refine⟨?_,g⟩;have h:=vz (s:=x.1.2.2) (t:=y.1.2.2) (by simpa using f);exact iN d (iN e h)
theorem dC{x:Tm (n+1)}{y:Tm (m+1)}(c:x.1=y.1)(k:aN (λa b=>aJ n a m b) x.2.2 y.2.2=true):aJ (n+1) x (m+1) y=true:=by
 simp only[aJ,c,k];simp
theorem ru{c d:Type}(f:c->d->Bool)(g:d->c->Bool):(p:List c)->(q:List d)->(∀a∈p,∀b,f a b=true->g b a=true)->aN f p q=true->aN g q p=true
 | [],[],_,_=>rfl
 | [],_::_,_,h=>by simp[aN]at h
 | _::_,[],_,h=>by simp[aN]at h
 | a::p,b::q,hf,h=>by
  simp only[aN,aS]at h ⊢;exact⟨hf a (by simp) b h.1,ru f g p q (λe i=>hf e (b9 _ i)) h.2⟩
theorem dE:(n:Nat)->(x:Tm n)->(m:Nat)->(y:Tm m)->aJ n x m y=true->aJ m y n x=true
 | 0,_,_,_,h=>by simp[aJ]at h
 | _+1,_,0,_,h=>by simp[aJ]at h
 | n+1,x,m+1,y,h=>by
  obtain⟨c,d⟩:=bU h;exact dC c.symm (ru _ _ _ _ (λa _ b e=>dE n a m b e) d)
theorem pr{d e i:Type}(f:d->e->Bool)(g:e->i->Bool)(k:d->i->Bool):(p:List d)->(q:List e)->(r:List i)->(∀a∈p,∀b c,f a b=true->g b c=true->k a c=true)->aN f p q=true->aN g q r=true->aN k p r=true
 | [],[],[],_,_,_=>rfl
 | [],[],_::_,_,_,h=>by simp[aN]at h
 | [],_::_,_,_,h,_=>by simp[aN]at h
 | _::_,[],_,_,h,_=>by simp[aN]at h
 | _::_,_::_,[],_,_,h=>by simp[aN]at h
 | a::p,b::q,c::r,hf,h1,h2=>by
  simp only[aN,aS]at h1 h2 ⊢;exact⟨hf a (by simp) b c h1.1 h2.1,pr f g k p q r (λj l=>hf j (b9 _ l)) h1.2 h2.2⟩
theorem bV:(n:Nat)->(x:Tm n)->(m:Nat)->(y:Tm m)->(l:Nat)->(d:Tm l)->aJ n x m y=true->aJ m y l d=true->aJ n x l d=true
 | 0,_,_,_,_,_,h,_=>by simp[aJ]at h
 | _+1,_,0,_,_,_,h,_=>by simp[aJ]at h
 | _+1,_,_+1,_,0,_,_,h=>by simp[aJ]at h
 | n+1,x,m+1,y,l+1,d,h,k=>by
  obtain⟨e,f⟩:=bU h;obtain⟨j,o⟩:=bU k;exact dC (e.trans j) (pr _ _ _ _ _ _ (λa _ b c g i=>bV n a m b l c g i) f o)
theorem jq{b:Type}(f:b->b->Bool):(p:List b)->(∀a∈p,f a a=true)->aN f p p=true
 | [],_=>rfl
 | a::p,h=>by
  simp only[aN,aS];exact⟨h a (by simp),jq f p λc d=>h c (b9 _ d)⟩
theorem fS:(n:Nat)->(x:Tm n)->aL ⟨n,x⟩->aJ n x n x=true
 | 0,_,h=>(dG h).elim
 | n+1,x,h=>dC rfl (jq _ _ λy a=>fS n y (bt n x y h a))
theorem aY{x:Tm n}:aL ⟨n,x⟩ ↔ cv n x=true:=by
 rw[mw,cY];exact Iff.rfl
theorem Ng{x:Int×Int×aq}{a b:ay}{l d:Nat}:cM (x,(a,l,c))=cM (x,(b,l,d)):=rfl
theorem tM{c d:Type}(f:c->d->Bool)(g:c->Bool)(k:d->Bool):(p:List c)->(q:List d)->(∀a∈p,∀b,f a b=true->g a=k b)->aN f p q=true->p.all g=q.all k
 | [],[],_,_=>rfl
 | [],_::_,_,h=>by simp[aN]at h
 | _::_,[],_,h=>by simp[aN]at h
 | a::p,b::q,hf,h=>by
  simp only[aN,aS]at h;simp only[jw,hf a (by simp) b h.1,tM f g k p q (λe i=>hf e (b9 _ i)) h.2]
theorem jo{c d e:Type}(f:c->d->Bool)(g:c->e)(k:d->e):(p:List c)->(q:List d)->(∀a∈p,∀b,f a b=true->g a=k b)->aN f p q=true->p.map g=q.map k
 | [],[],_,_=>rfl
 | [],_::_,_,h=>by simp[aN]at h
 | _::_,[],_,h=>by simp[aN]at h
 | a::p,b::q,hf,h=>by
  simp only[aN,aS]at h;simp only[bA,hf a (by simp) b h.1,jo f g k p q (λi j=>hf i (b9 _ j)) h.2]
theorem vW{b:Type}(g:b->Int):(p:List b)->(i:Int)->p.foldl (λm y=>max m (g y)) i=(p.map g).foldl max i
 | [],_=>rfl
 | a::p,i=>by simp only[gg,bA];exact vW g p _
theorem cG:(n:Nat)->(x:Tm n)->(m:Nat)->(y:Tm m)->aJ n x m y=true->aX n x=aX m y
 | 0,_,_,_,h=>by simp[aJ]at h
 | _+1,_,0,_,h=>by simp[aJ]at h
 | n+1,x,m+1,y,h=>by
  obtain⟨c,d⟩:=bU h;simp only[aX,c];rw[tM _ _ _ _ _ (λa _ b e=>cG n a m b e) d]
theorem j0:(n:Nat)->(x:Tm n)->(m:Nat)->(y:Tm m)->aJ n x m y=true->cv n x=cv m y
 | 0,_,_,_,h=>by simp[aJ]at h
 | _+1,_,0,_,h=>by simp[aJ]at h
 | n+1,x,m+1,y,h=>by
  obtain⟨a,c⟩:=bU h;have e:cM (bQ n x)=cM (bQ m y):=by
   have g:=cW _ _ _ c;unfold bQ;rw[a,g];exact Ng
  simp only[cv,e,a];rw[tM _ _ _ _ _ (λd _ b f=>j0 n d m b f) c]
theorem kX:(n:Nat)->(x:Tm n)->(m:Nat)->(y:Tm m)->aJ n x m y=true->sz n x=sz m y
 | 0,_,_,_,h=>by simp[aJ]at h
 | _+1,_,0,_,h=>by simp[aJ]at h
 | n+1,x,m+1,y,h=>by
  obtain⟨c,d⟩:=bU h;simp only[sz,c];rw[jo _ (λy=>1+sz n y) (λy=>1+sz m y) _ _ (λa _ b e=>by rw[kX n a m b e]) d]
theorem Da:(n:Nat)->(x:Tm n)->(m:Nat)->(y:Tm m)->aJ n x m y=true->gJ n x=gJ m y
 | 0,_,_,_,h=>by simp[aJ]at h
 | _+1,_,0,_,h=>by simp[aJ]at h
 | n+1,x,m+1,y,h=>by
  obtain⟨c,d⟩:=bU h;simp only[gJ,c];rw[vW (λy=>gJ n y),vW (λy=>gJ m y),jo _ (λy=>gJ n y) (λy=>gJ m y) _ _ (λa _ b e=>Da n a m b e) d]
theorem bO{x:Tm n}{y:Tm m}(a:aJ n x m y=true):bK n x=bK m y:=by
 rw[<-gN,<-gN];unfold xO;rw[j0 n x m y a,kX n x m y a,Da n x m y a]
theorem lm{x:Tm n}{y:Tm m}(a:aJ n x m y=true):ci ⟨n,x⟩=ci ⟨m,y⟩:=by
 cases n with
 | zero=>simp[aJ]at a
 | succ n=>
  cases m with
  | zero=>simp[aJ]at a
  | succ m=>
   have:=(bU a).1;simp only[ci,this]
theorem jZ{c d:Type}(f:c->d->Bool):(p:List c)->(q:List d)->aN f p q=true->∀(i:Nat)(a:c)(b:d),p[i]?=some a->q[i]?=some b->f a b=true
 | [],_,_,i,a,b,ha,_=>by simp at ha
 | _::_,[],h,_,_,_,_,_=>by simp[aN]at h
 | a::p,b::q,h,0,a',b',ha,hb=>by
  simp only[aN,aS]at h;simp at ha hb;subst ha hb;exact h.1
 | a::p,b::q,h,i+1,a',b',ha,hb=>by
  simp only[aN,aS]at h;exact jZ f p q h.2 i a' b' (by simpa using ha) (by simpa using hb)
theorem jp{b c:Type}(f:c->b->Bool)(g:b->c):(p:List b)->(∀a∈p,f (g a) a=true)->aN f (p.map g) p=true
 | [],_=>rfl
 | a::p,h=>by
  simp only[bA,aN,aS];exact⟨h a (by simp),jp f g p λd e=>h d (b9 _ e)⟩
theorem fR:(N n:Nat)->n<=N->(x:Tm n)->aL ⟨n,x⟩->aJ N (bj N n x) n x=true
 | _,0,_,_,h=>(dG h).elim
 | 0,n+1,h,_,_=>by omega
 | N+1,n+1,h,x,hr=>dC rfl (jp _ _ _ λy a=>fR N n (by omega) y (bt n x y hr a))
theorem eu(s:aq)(w:ah)(b:s.size<=2048):au 112 #[af s] w λe w'=>e=aw (af s)/\ap w w':=by
 go_enter func112,ntmps112;go_wp2_with (go_at_call 143;refine(Tryz.stringslite_Clone s w (by omega)).mono ?_;rintro e w' ⟨rfl,a⟩)
 go_ret
 exact⟨rfl,a⟩
theorem mu(a:ay)(pc:Nat)(w:ah):au 133 #[ag a 0 pc] w λe w'=>e=aw (ag none 0 0)/\w'=w:=by
 go_enter func133,ntmps133;go_wp2_with fail
 go_ret
 exact⟨rfl,rfl⟩
theorem rZ(n:Nat)(p:List (Tm n))(len:Nat)(a:w1.ownsRow w.heap.size 54 4 (ag (some ⟨w.heap.size,0,none⟩) len len) len (madeCells (Value.agg #[ae 0,ae 0,af .empty,ag none 0 0]).cells (len*4)).toList):vn n p len w.heap.size 0 [] w1:=by
 refine⟨rfl,?_,(λd c=>by cases c),rfl⟩;have b:(madeCells (Value.agg #[ae 0,ae 0,af .empty,ag none 0 0]).cells (len*4)).toList=gq (List.replicate len zA):=ID len;rw[b]at a;unfold nS;simpa using a
theorem zV(n:Nat)(ih:Qw n)(p:List (Tm n))(len:Nat)(L:Hid (p.length=len))(r po pc:Nat)(B:Nat)(w:ah)(an:0<len)(ay:len<=1048576)(W:r<B)(u:∀(i:Nat)(y:Tm n),p[i]?=some y->eg w r (po+i*4) n y/\In B w n y)(M:∀y∈p,aL ⟨n,y⟩)(G:B<=w.heap.size):au 133 #[ag (some ⟨r,po,none⟩) len pc] w λe w'=>∃l,e=aw (ag (some ⟨w.heap.size,0,none⟩) len len)/\Hid (ig n p w w' (some ⟨w.heap.size,0,none⟩) len l):=by
 obtain⟨X,hit,N,O,P⟩:=bS gM;have ax:((len:Int)==0)=false:=by simp;omega
 go_enter func133,ntmps133;go_wp2_with (at_make;refine lM _ rfl _ _ 52 rfl w.heap.size 54 X _ 4 underlying52 hit N O _ _ _ _ len rfl rfl rfl rfl (by rw[P];omega) (by unfold maxLen;omega) (aA _) ?_;intro Z K f);have E:=av (rZ n p len K);have z:Hid (ap w Z):=⟨f.os,f.tape,f.output,f.size,λk I=>f.block k I (by simp)⟩;clear K f hit N O P;go_wp2_with fail;go_loopw [14] (λi wr=>∃k:Nat,k<=len/\i=ae k/\Hid (ap w wr/\∃l,vn n p len w.heap.size k l wr)) (λi _=>len-(intOf i).toNat)
 case atStart=>exact⟨0,by omega,rfl,z,[],E⟩
 case round=>
  obtain⟨k,I,rfl,C⟩:=hrel;obtain⟨g,l,d⟩:Hid (ap w wr)/\∃l,Hid (vn n p len w.heap.size k l wr):=C.out;clear C;by_cases J:k<len
  ·obtain⟨a,m⟩:∃a,p[k]?=some a:=⟨p[k]'(by rw[L.out];exact J),aU _⟩;obtain⟨o,q⟩:=u k a m;have U:=av m;have D:=av (M a (aT m));replace o:=o.below (g.mono G) W;replace q:=q.below (g.mono G);have V:w.heap.size<wr.heap.size:=d.2.1.lt.2;have H:B<=wr.heap.size:=by omega
   clear u m M E z;cases n with
   | zero=>exact o.elim
   | succ n=>
   obtain⟨aa,ab,ad,ai⟩:=o
   have A:Hid (∀(b:ah),ap wr b->au 91 #[.agg #[ae a.1.1,ae a.1.2.1,af a.1.2.2,ag a.2.1.1 a.2.2.length a.2.1.2]] b λe w'=>∃y:Tm (n+1),e=aw (dF (n+1) y)/\Hid (ap b w'/\In w'.heap.size w' (n+1) y/\cF (λs=>b.heap.size<=s) (n+1) y/\aJ (n+1) y (n+1) a=true)):=
    λb c=>ih a B b (q.below (c.mono H)) (aF H c.size) D
   clear ih q D;generalize a.2.2.length=aB at*;have aq:(0:Int)<=(k:Int):=by omega
   have ar:(k:Int)<(len:Int):=by omega
   have az:r<wr.heap.size:=by omega
   go_wp2_with fail;refine(A _ (aV _ _)).mono ?_;rintro e b ⟨y,rfl,h⟩;have j:Hid (ap wr b):=(aV _ _).trans (h.1.mono (by simp));have T:=av (d.step J a U j y h.2.1 (h.2.2.1.mono λs v=>by simp at v;omega) h.2.2.2);have t:=av (d.2.1.below j);have R:Hid (ap w (jX b w.heap.size (k*4) (gL (n+1) y))):=by
    have c:=g.trans (j.mono (Nat.le_of_lt V));exact⟨c.os,c.tape,c.output,aF c.size (cR (bJ _ _ _ _).symm),λs v=>(bw (by omega) _ _ _ _).trans (c.block s v)⟩
   obtain⟨x,Q⟩:∃x,(l.map (λa=>(⟨n+1,a⟩:An))++List.replicate (len-k) zA)[k]?=some x:=⟨_,aU (by simp[d.out.1];omega)⟩;obtain⟨aj,ak,al,am⟩:=t.out.cells k x Q;have ao:=λY=>t.free Y;have F:dF (n+1) y=.agg #[ae y.1.1,ae y.1.2.1,af y.1.2.2,ag y.2.1.1 y.2.2.length y.2.1.2]:=rfl;rw[F];clear A d g h j t aa ab ad ai Q F;go_wp2_with fail;go_roundw
   case rel=>exact⟨k+1,by omega,by go_num,R,l++ [y],T⟩
   case measure=>simp[intOf];omega
  ·have S:=av (d.done L (by omega) g (by unfold maxLen;omega));clear d u;go_wp2_with fail
   go_ret
   exact⟨l,rfl,S⟩
def Qv(n:Nat):Prop:=∀(p:List (Tm n))(a:ay)(pc B:Nat)(w:ah),(p=[]\/∃b o,a=some ⟨b,o,none⟩/\b<B/\∀(i:Nat)(y:Tm n),p[i]?=some y->eg w b (o+i*4) n y/\In B w n y)->p.length<=1048576->(∀y∈p,aL ⟨n,y⟩)->B<=w.heap.size->
 au 133 #[ag a p.length pc] w λe w'=>∃c d l,e=aw (ag c p.length d)/\Hid (ig n p w w' c d l)
theorem ua(n:Nat)(ih:Qw n):Qv n:=by
 intro c i pc g d a p q k;rcases a with a|⟨b,o,rfl,m,a⟩
 ·subst a;refine(mu i pc d).mono ?_;rintro e f ⟨rfl,rfl⟩;exact⟨none,0,[],rfl,aG _ _,rfl,aA _,aM _,rfl,ak rfl⟩
 ·by_cases j:c.length=0
  ·have:c=[]:=b8 j;subst this;refine(mu _ pc d).mono ?_;rintro e f ⟨rfl,rfl⟩;exact⟨none,0,[],rfl,aG _ _,rfl,aA _,aM _,rfl,ak rfl⟩
  ·refine(zV n ih c c.length rfl b o pc g d (by omega) p m a q k).mono ?_;rintro e f ⟨l,rfl,h⟩;exact⟨_,_,l,rfl,h⟩
theorem G5(a:Below ((w.alloc p).alloc r).drew.heap.size ((w.alloc p).alloc r).drew w1):ap w w1/\w.heap.size<w1.heap.size/\w.heap.size+1<w1.heap.size:=by
 have b:ap w ((w.alloc p).alloc r).drew:=((aV _ _).alloc (by simp) _).drew;have d:=a.size;have c:((w.alloc p).alloc r).drew.heap.size=w.heap.size+2:=by simp[World.drew]
 exact⟨b.trans (a.mono b.size),by omega,by omega⟩
theorem ia(a:Below B w w1):∀b o,b<B->w1.frozen? ⟨b,o,none⟩=w.frozen? ⟨b,o,none⟩:=λb o c=>a.frozen (p:=⟨b,o,none⟩) c
theorem JG{e:TypeId}(d:Below ((w.alloc (.cells #[v0,v1,v2,v3] t)).alloc (.cells #[f,i,j,l] e)).drew.heap.size ((w.alloc (.cells #[v0,v1,v2,v3] t)).alloc (.cells #[f,i,j,l] e)).drew w'):(ai w' w.heap.size 0 v0/\ai w' w.heap.size 1 v1/\ai w' w.heap.size 2 v2/\ai w' w.heap.size 3 v3)/\ w'.cell? ⟨w.heap.size+1,0,none⟩=some f/\w'.cell? ⟨w.heap.size+1,1,none⟩=some i/\w'.cell? ⟨w.heap.size+1,2,none⟩=some j/\w'.cell? ⟨w.heap.size+1,3,none⟩=some l/\ w'.frozen? ⟨w.heap.size+1,0,none⟩=false/\w'.frozen? ⟨w.heap.size+1,1,none⟩=false/\w'.frozen? ⟨w.heap.size+1,2,none⟩=false/\w'.frozen? ⟨w.heap.size+1,3,none⟩=false:=by
 have a:=λo=>d.cell (p:=⟨w.heap.size,o,none⟩) (by simp[World.drew];try omega);have b:=λo=>d.cell (p:=⟨w.heap.size+1,o,none⟩) (by simp[World.drew];try omega);have c:=λo=>d.frozen (p:=⟨w.heap.size+1,o,none⟩) (by simp[World.drew];try omega);exact⟨⟨(a 0).trans (by simp[go_sem]),(a 1).trans (by simp[go_sem]),(a 2).trans (by simp[go_sem]),(a 3).trans (by simp[go_sem])⟩,(b 0).trans (by simp[go_sem]),(b 1).trans (by simp[go_sem]),(b 2).trans (by simp[go_sem]),(b 3).trans (by simp[go_sem]),(c 0).trans (by simp[go_sem]),(c 1).trans (by simp[go_sem]),(c 2).trans (by simp[go_sem]),(c 3).trans (by simp[go_sem])⟩
theorem DX(a:q<w1.heap.size)(d:ap w1 w2)(k:ai w1 q 0 f/\ai w1 q 1 i/\ai w1 q 2 j/\ai w1 q 3 l/\ w1.frozen? ⟨q,0,none⟩=false/\w1.frozen? ⟨q,1,none⟩=false/\w1.frozen? ⟨q,2,none⟩=false/\w1.frozen? ⟨q,3,none⟩=false):ai w2 q 0 f/\ai w2 q 1 i/\ai w2 q 2 j/\ai w2 q 3 l/\ w2.frozen? ⟨q,0,none⟩=false/\w2.frozen? ⟨q,1,none⟩=false/\w2.frozen? ⟨q,2,none⟩=false/\w2.frozen? ⟨q,3,none⟩=false:=by
 obtain⟨e,g,h,m,d0,d1,d2,d3⟩:=k;have b:=aB d;have c:=ia d;exact⟨(b _ _ a).trans e,(b _ _ a).trans g,(b _ _ a).trans h,(b _ _ a).trans m,(c _ _ a).trans d0,(c _ _ a).trans d1,(c _ _ a).trans d2,(c _ _ a).trans d3⟩
theorem ig.box{p:List (Tm n)}{a:ay}{l:List (Tm n)}(r:ig n p w1 w2 a c l)(h:ap w w1)(f:w.heap.size+1<w1.heap.size)(v0 v1 v2 v3:az):ig n p w (dk w2 (w.heap.size+1) 0 v0 v1 v2 v3) a c l:=by
 obtain⟨s,t,u,v,x,d⟩:=r;have e:=h.trans (s.mono h.size);have F:=h.size;refine⟨⟨e.os,e.tape,e.output,aF e.size (cR (bJ _ _ _ _).symm),λj f=>(bw (by omega) _ _ _ _).trans (e.block j f)⟩,t,u,v,x,?_⟩;rcases d with d|⟨b,o,q,i,y,d⟩
 ·exact ak d
 ·refine am ⟨b,o,q,⟨by omega,i.2.1,λB=>?_,i.2.2.2⟩,by rw[bJ];exact y,λA E z=>?_⟩
  ·have k:=i.2.2.1 B;unfold World.frozen? at k ⊢;rw[bw (w:=w2) (g:=w.heap.size+1) (b:=b) (o:=0) (by omega) v0 v1 v2 v3];exact k
  obtain⟨C,D,m⟩:=d A E z;refine⟨C.block (bw (by omega) _ _ _ _),?_,m.mono λj f=>by omega⟩;rw[bJ];exact In.off (λj f=>bw (by omega) _ _ _ _) m D
theorem nb(x:Nd)(a:cM x=true):x.2.2.1<=8:=by
 by_cases b:x.1.1=4
 ·simp[cM,b]at a;omega
 ·have:=(eX x a).2.2.2.2 b;omega
theorem tu(x:Nd)(a:cM x=true):x.1.2.2.size<=8:=by
 by_cases c:x.1.1=2
 ·simp[cM,c,ei,qX]at a;omega
 ·have b:=(eX x a).1 c;have e:x.1.2.2.data.toList=[]:=by rw[cD]at b;exact b
  have:x.1.2.2.size=0:=by
   have d:x.1.2.2.size=x.1.2.2.data.toList.length:=by rw[lu];rfl
   rw[d,e];rfl
  omega
theorem th(n:Nat)(k g:Int)(s:aq)(a:ay)(len pc:Nat)(p:List (Tm n))(w:ah)(F:s.size<=2048)(m:Hid (∀w1,ap w w1->au 133 #[ag a len pc] w1 λe w'=>∃b c l,e=aw (ag b len c)/\Hid (ig n p w1 w' b c l))):au 91 #[.agg #[ae k,ae g,af s,ag a len pc]] w λe w'=>∃b c l,e=aw (.agg #[ae k,ae g,af s,ag b len c])/\Hid (ig n p w w' b c l):=by
 go_enter func91,ntmps91;go_wp2_with fail;go_region_held3 (λw'=>w'.cell? ⟨w.heap.size,0,none⟩=some (ae k)/\w'.cell? ⟨w.heap.size,1,none⟩=some (ae g)/\w'.cell? ⟨w.heap.size,2,none⟩=some (af s)/\w'.cell? ⟨w.heap.size,3,none⟩=some (ag a len pc)) (go_keep) ((first|(go_at_call 112;refine(eu s _ F).mono ?_;rintro e w1 ⟨rfl,i⟩;have f:=av (G5 i);have d:=av (JG i);have q:=d.1.1;have r:=d.1.2.1;have t:=d.1.2.2.1;have u:=d.1.2.2.2;clear i)|(go_at_call 133;refine(m _ f.1).mono ?_;rintro e G ⟨b,c,l,rfl,h⟩;have j:=av (DX f.2.2 h.1 d.2);obtain⟨B,C,D,E,d0,d1,d2,d3⟩:=j.out;obtain⟨x,y,z,A⟩:=oT f.2.1 h.1 d.1)));have o:=av (h.box f.1 f.2.2 (ae k) (ae g) (af s) (ag b len c));clear h f d j q r t u x y z A;go_wp2_with fail;exact aD (v:=.agg #[ae k,ae g,af s,ag b len c]) (by simp[results,results91,go_sem,B,C,D,E]) rfl ⟨b,c,l,rfl,o⟩
theorem iC(n:Nat):Qw n:=by
 induction n with
 | zero=>intro a m u k;exact k.elim
 | succ n ih=>
  intro a m u k j t;have E:=k;obtain⟨⟨G,H,D,K,J⟩,h⟩:=E;have s:=t (bQ n a) (by simp[aH,bQ]);have I:a.2.2.length<=8:=nb (bQ n a) s;have C:a.1.2.2.size<=2048:=by have:=tu (bQ n a) s;simp only[bQ]at this;omega
  refine(th n a.1.1 a.1.2.1 a.1.2.2 a.2.1.1 a.2.2.length a.2.1.2 a.2.2 u C ?_).mono ?_
  ·intro F i;refine ua n ih a.2.2 a.2.1.1 a.2.1.2 m F ?_ (by omega) (λe d=>bt n a e t d) (aF j i.size);rcases h with h|⟨b,o,g,p,h⟩
   ·exact ak h
   ·exact am ⟨b,o,g,p,λf e d=>⟨(h f e d).1.below (i.mono j) p,(h f e d).2.below (i.mono j)⟩⟩
  ·rintro g L ⟨w,x,l,rfl,v⟩;obtain⟨i,y,z,A,B,c⟩:=v;refine⟨(a.1,(w,x),l),by rw[<-y];rfl,i,⟨⟨G,H,D,z,A⟩,?_⟩,?_,?_⟩
   ·rcases c with c|⟨b,o,g,q,r,c⟩
    ·exact ak c
    ·exact am ⟨b,o,g,r,λf e d=>⟨(c f e d).1,(c f e d).2.1⟩⟩
   ·rcases c with c|⟨b,o,g,q,r,c⟩
    ·exact ak c
    ·exact am ⟨b,o,g,q.1,λf e d=>(c f e d).2.2⟩
   ·simp only[aJ];simp[B]
def qF:aq:=⟨#[115,101,108,102]⟩
def A7:aq:=⟨#[97,100,100]⟩
def DD:aq:=⟨#[112,117,116]⟩
def qr(N:Nat)(x:Tm N):Int:=(gL N x).1.2.1
def uY(n:Nat)(p:List (Tm n))(s:aq)(k:Nat):Bool:=
 decide (p.length=1+k) && match p[0]? with
  | some a=>ci ⟨n,a⟩==2 && (gL n a).1.2.2.toList==s.toList
  | none=>false
def cZ{c d:Type}(f:c->Option d):List c->Option (List d)
 | []=>some []
 | a::p=>(f a).bind λb=>(cZ f p).map λl=>b::l
def cw(k a:Int)(N:Nat):Tm (N+1):=((k,a,.empty),(none,0),[])
def AW(N:Nat)(a c:Tm N):Bool:=ci ⟨N,a⟩==1 && ci ⟨N,c⟩==1 && qX (qr N a+qr N c) (-1099511627776) 1099511627776
def uQ(N:Nat)(a c:Tm N):Option (Tm (N+1)):=if AW N a c then some (cw 1 (qr N a+qr N c) N)else none
def dS(N:Nat)(l:List (Tm N)):Tm (N+1):=((4,0,.empty),(none,0),l)
def vl(m:Nat)(b:List (Tm m))(self:Int):(n:Nat)->Tm n->Option (Tm (m+n))
 | 0,_=>none
 | n+1,x=>
  if x.1.1=5 then (b[x.1.2.1.toNat]?).bind λy=>if ci ⟨m,y⟩=6 then none else some (bj (m+n+1) m y)
  else if x.1.1=6 then none
  else if x.1.1=4 then
   if uY n x.2.2 qF 0 then some (cw 3 self (m+n))
   else if uY n x.2.2 A7 2 then
    (x.2.2[1]?).bind λa=>(x.2.2[2]?).bind λc=>(vl m b self n a).bind λa=>(vl m b self n c).bind λc=>uQ (m+n) a c
   else if uY n x.2.2 DD 1 then
    (x.2.2[1]?).bind λa=>if aX n a then some (bj (m+n+1) n a)else none
   else (cZ (λy=>vl m b self n y) x.2.2).map (dS (m+n))
  else some (bj (m+n+1) (n+1) x)
theorem rU{e g:Type}(f:e->Option g):(p:List e)->(l:List g)->cZ f p=some l->l.length=p.length/\∀(i:Nat)(a:e)(y:g),p[i]?=some a->l[i]?=some y->f a=some y
 | [],l,b=>by simp[cZ]at b;subst b;exact⟨rfl,λi a y c=>by simp at c⟩
 | a::p,l,b=>by
  simp only[cZ]at b;obtain⟨y,n,b⟩:=cu.1 b;obtain⟨r,m,rfl⟩:=cI.1 b;obtain⟨j,k⟩:=rU f p r m;refine⟨by simp[j],λi h o c d=>?_⟩;cases i with
  | zero=>
   simp at c d;subst c d;exact n
  | succ i=>exact k i h o (by simpa using c) (by simpa using d)
theorem mS{c d:Type}(f:c->Option d):(p:List c)->(i:Nat)->(a:c)->p[i]?=some a->f a=none->cZ f p=none
 | [],i,a,h,_=>by simp at h
 | b::p,0,a,h,k=>by
  simp at h;subst h;simp[cZ,k]
 | b::p,i+1,a,h,k=>by
  simp only[cZ];rw[mS f p i a (by simpa using h) k];simp
theorem xX{b c:Type}(f:b->Option c)(g:b->c):(p:List b)->(∀a∈p,f a=some (g a))->cZ f p=some (p.map g)
 | [],_=>rfl
 | a::p,h=>by simp[cZ,h a (by simp),xX f g p λx d=>h x (b9 _ d)]
theorem Ap{b c d:Type}(f:b->List d)(g:c->List d)(K:Nat):(p:List b)->(l:List c)->l.length=p.length->(∀(i:Nat)(a:b)(y:c),p[i]?=some a->l[i]?=some y->(g y).length<=K*(f a).length)->(l.flatMap g).length<=K*(p.flatMap f).length
 | [],[],_,_=>by simp
 | [],_::_,h,_=>by simp at h
 | _::_,[],h,_=>by simp at h
 | a::p,y::l,h,k=>by
  have m:=k 0 a y rfl rfl;have n:=Ap f g K p l (by simpa using h) λi a y e j=>k (i+1) a y (by simpa using e) (by simpa using j);simp only[bL,bq];rw[Nat.mul_add];omega
theorem pQ:(N n:Nat)->n<=N->(x:Tm n)->(aH N (bj N n x)).length<=(aH n x).length
 | 0,0,_,_=>aA _
 | _+1,0,_,_=>by simp[bj,aH]
 | 0,n+1,h,_=>by omega
 | N+1,n+1,h,x=>by
  have:=Ap (λy=>aH n y) (λy=>aH N y) 1 x.2.2 (x.2.2.map λy=>bj N n y) (by simp) λi a y c b=>by
   simp[c]at b;subst b;rw[Nat.one_mul];exact pQ N n (by omega) a
  simp only[aH,bj,bu];omega
theorem wv{a K:Nat}(b:1<=K):a<=K*a:=Nat.le_mul_of_pos_left a b
theorem CD(f:d->List h)(p:List d)(a:d)(c:a∈p):(f a).length<=(p.flatMap f).length:=by
 induction p with
 | nil=>cases c
 | cons b p ih=>
  simp only[bL,bq];rcases cq.1 c with rfl|c
  ·omega
  ·have:=ih c;omega
theorem DC(m:Nat)(b:List (Tm m))(self:Int)(K:Nat)(f:1<=K)(q:∀y∈b,(aH m y).length<=K):(n:Nat)->(x:Tm n)->(o:Tm (m+n))->vl m b self n x=some o->(aH (m+n) o).length<=K*(aH n x).length
 | 0,_,_,d=>by simp[vl]at d
 | n+1,x,o,d=>by
  have one:∀k r,(aH (m+n+1) (cw k r (m+n))).length<=K*(aH (n+1) x).length:=λk r=>by
   have:1*1<=K*(aH (n+1) x).length:=Nat.mul_le_mul f (by simp[aH]);simpa [aH,cw]using this
  have up:∀(y:Tm n),y∈x.2.2->K*(aH n y).length<=K*(aH (n+1) x).length:=λy j=>by
   have:=CD (λy=>aH n y) x.2.2 y j;exact Nat.mul_le_mul_left K (by simp only[aH,bu]at this ⊢;omega)
  simp only[vl]at d;split at d
  ·obtain⟨y,j,d⟩:=cu.1 d;split at d
   ·cases d
   ·obtain rfl:=aI d;have e:=pQ (m+n+1) m (by omega) y;have g:=q y (aT j);have h:K*1<=K*(aH (n+1) x).length:=Nat.mul_le_mul_left K (by simp[aH]);show (aH (m+n+1) _).length<=_;omega
  ·split at d
   ·cases d
   ·split at d
    ·split at d
     ·obtain rfl:=aI d;exact one _ _
     ·split at d
      ·obtain⟨a,p,d⟩:=cu.1 d;obtain⟨c,A,d⟩:=cu.1 d;obtain⟨v,z,d⟩:=cu.1 d;obtain⟨w,B,d⟩:=cu.1 d;unfold uQ at d;split at d
       ·obtain rfl:=aI d;exact one _ _
       ·cases d
      ·split at d
       ·obtain⟨a,p,d⟩:=cu.1 d;split at d
        ·obtain rfl:=aI d;have e:=pQ (m+n+1) n (by omega) a;have g:=up a (aT p);have h:=wv (a:=(aH n a).length) f;show (aH (m+n+1) _).length<=_;omega
        ·cases d
       ·obtain⟨l,u,rfl⟩:=cI.1 d;obtain⟨e,g⟩:=rU _ _ _ u;have h:=Ap (λy=>aH n y) (λy=>aH (m+n) y) K x.2.2 l e λi a y s t=>DC m b self K f q n a y (g i a y s t);show (aH (m+n+1) (dS (m+n) l)).length<=_;simp only[aH,dS,bu];rw[Nat.mul_add];omega
    ·obtain rfl:=aI d;have e:=pQ (m+n+1) (n+1) (by omega) x;have h:=wv (a:=(aH (n+1) x).length) f;show (aH (m+n+1) _).length<=_;omega
theorem lp:(n:Nat)->(x:Tm n)->(m:Nat)->(y:Tm m)->aJ n x m y=true->(aH n x).length=(aH m y).length
 | 0,_,_,_,h=>by simp[aJ]at h
 | _+1,_,0,_,h=>by simp[aJ]at h
 | n+1,x,m+1,y,h=>by
  obtain⟨f,e⟩:=bU h;have key:∀(p:List (Tm n))(q:List (Tm m)),aN (λa b=>aJ n a m b) p q=true->(p.flatMap λy=>aH n y).length=(q.flatMap λy=>aH m y).length:=by
   intro p
   induction p with
   | nil=>intro q d;cases q with
    | nil=>rfl
    | cons _ _=>simp[aN]at d
   | cons a p ih=>intro q d;cases q with
    | nil=>simp[aN]at d
    | cons c q=>
     simp only[aN,aS]at d;simp only[bL,bq];rw[lp n a m c d.1,ih q d.2]
  simp only[aH,bu];rw[key _ _ e]
theorem bT{x:Tm n}:bK n x=0 ↔ cv n x=true/\gJ n x<=12/\sz n x<=200:=by
 rw[<-gN];unfold xO;constructor
 ·intro a;split at a
  ·rename_i c;split at a
   ·cases a
   ·rename_i f;exact⟨c,by omega,by omega⟩
  ·cases a
 ·rintro ⟨b,d,e⟩;rw[if_pos b,if_neg (by omega)]
theorem Gz:(n:Nat)->(x:Tm n)->aL ⟨n,x⟩->((aH n x).length:Int)<=sz n x+1
 | 0,_,h=>(dG h).elim
 | n+1,x,h=>by
  have c:=eX (bQ n x) (h (bQ n x) (by simp[aH,bQ]));by_cases a:x.1.1=4
  ·have key:∀l:List (Tm n),(∀y∈l,aL ⟨n,y⟩)->((l.flatMap λy=>aH n y).length:Int)<=(l.map λy=>1+sz n y).sum:=by
     intro l
     induction l with
     | nil=>intro _;simp
     | cons y l ih=>
      intro b;have g:=Gz n y (b y (by simp));have i:=ih λf e=>b f (b9 _ e);simp only[bL,bq,bA,dj];omega
   have:=key x.2.2 λy d=>bt n x y h d;simp only[aH,bu,sz,if_pos a];omega
  ·have:x.2.2=[]:=b8 (c.2.2.2.2 a);simp[aH,this,sz,a]
theorem jP{x:Tm n}(a:bK n x=0):(aH n x).length<=201:=by
 obtain⟨b,_,c⟩:=bT.1 a;have:=Gz n x (aY.2 b);omega
theorem iB{b:List (Tm m)}(a:gG m b=true):b.length=4/\∀y∈b,bK m y=0/\aL ⟨m,y⟩/\(ci ⟨m,y⟩=6\/aX m y=true):=by
 unfold gG at a;simp only[aS,cU,cY]at a;refine⟨a.1,λy c=>?_⟩;have:=a.2 y c;unfold CP at this;simp only[aS,ki,cT]at this;refine⟨this.1,aY.2 (bT.1 this.1).1,?_⟩;rw[fQ];exact this.2
theorem qZ(e:n<=N)(x:Tm n)(c:aL ⟨n,x⟩):aL ⟨N,bj N n x⟩:=by
 cases n with
 | zero=>exact(dG c).elim
 | succ n=>
  obtain⟨a,rfl⟩:∃a,N=a+1:=⟨N-1,by omega⟩;intro d b;simp only at b;rw[oe a n (by omega) x]at b;exact c d b
theorem wV{x:Tm (N+1)}(c:cM (bQ N x)=true)(k:∀y∈x.2.2,aL ⟨N,y⟩):aL ⟨N+1,x⟩:=by
 intro b a;simp only[aH,cq,kp]at a;rcases a with rfl|⟨y,d,a⟩
 ·exact c
 ·exact k y d b a
theorem xo(m:Nat)(b:List (Tm m))(self:Int)(k:1<=self/\self<=99)(i:∀y∈b,aL ⟨m,y⟩):(n:Nat)->(x:Tm n)->aL ⟨n,x⟩->(g:Tm (m+n))->vl m b self n x=some g->aL ⟨m+n,g⟩
 | 0,_,_,_,d=>by simp[vl]at d
 | n+1,x,hr,g,d=>by
  have r:=hr (bQ n x) (by simp[aH,bQ]);have B:x.2.2.length<=8:=nb (bQ n x) r;simp only[vl]at d;split at d
  ·obtain⟨y,e,d⟩:=cu.1 d;split at d
   ·cases d
   ·obtain rfl:=aI d;exact qZ (N:=m+n+1) (by omega) y (i y (aT e))
  ·split at d
   ·cases d
   ·split at d
    ·split at d
     ·obtain rfl:=aI d;exact wV (N:=m+n) (by simp[cM,cw,bQ,qX,k]) (by intro y e;cases e)
     ·split at d
      ·obtain⟨a,h,d⟩:=cu.1 d;obtain⟨c,z,d⟩:=cu.1 d;obtain⟨u,w,d⟩:=cu.1 d;obtain⟨v,A,d⟩:=cu.1 d;unfold uQ at d;split at d
       ·rename_i o;obtain rfl:=aI d;simp only[AW,aS]at o;exact wV (N:=m+n) (by simp[cM,cw,bQ,o.2]) (by intro y e;cases e)
       ·cases d
      ·split at d
       ·obtain⟨a,h,d⟩:=cu.1 d;split at d
        ·obtain rfl:=aI d;exact qZ (N:=m+n+1) (by omega) a (bt n x a hr (aT h))
        ·cases d
       ·obtain⟨l,t,rfl⟩:=cI.1 d;obtain⟨p,q⟩:=rU _ _ _ t;refine wV (N:=m+n) ?_ λy e=>?_
        ·have:(l.length:Int)<=8:=by omega
         simp[cM,dS,bQ,this]
        ·obtain⟨f,j⟩:=di e;have s:f<x.2.2.length:=by rw[<-p];exact(bi.1 j).1
         exact xo m b self k i n x.2.2[f] (bt n x _ hr (gh _)) y (q f _ y (aU s) j)
    ·obtain rfl:=aI d;exact qZ (N:=m+n+1) (by omega) x hr
def GI(a:Int)(bd:Bool)(self:Int):Int:=if a=0 then if bd then if 1<=self/\self<=99 then 0 else 1 else 5 else a
def oR{N:Nat}(E:Int)(o:Option (Tm N)):Option (Tm N):=if E=0 then o.bind λa=>if bK N a=0 then some a else none else none
def GH{N:Nat}(E:Int)(o:Option (Tm N)):Int:=if E=0 then if o.isSome then 0 else 7 else E
theorem Gt{p:List (Tm n)}(a:p.length≠1+k):uY n p s k=false:=by simp[uY,a]
theorem Pe{p:List (Tm (n+1))}{y:Tm (n+1)}(a:p.length=1+k)(b:p[0]?=some y):uY (n+1) p s k=(y.1.1==2 && y.1.2.2.toList==s.toList):=by
 simp[uY,a,b,ci,gL,bQ]
theorem Ir(a:ay)(len pc:Nat)(s:aq)(k:Nat)(w:ah)(f:k<=8)(c:len≠1+k):au 245 #[ag a len pc,af s,ae k] w λe w'=>e=aw (.bool false)/\w'=w:=by
 have d:((len:Int)==1+(k:Int))=false:=by simp;omega
 have b:IntKind.i64.wrap (1+(k:Int))=1+(k:Int):=by rw[IntKind.wrap];simp[IntKind.bits,IntKind.signed];omega
 go_enter func245,ntmps245;go_wp2_with fail
 go_ret
 exact⟨rfl,rfl⟩
theorem Iq(a po len pc:Nat)(s:aq)(k:Nat)(b:Int)(c:aq)(w:ah)(l:len<=8)(j:k<=8)(g:len=1+k)(c0:ai w a po (ae b))(d:ai w a (po+2) (af c)):au 245 #[ag (some ⟨a,po,none⟩) len pc,af s,ae k] w λe w'=>e=aw (.bool (b==2 && c.toList==s.toList))/\w'=w:=by
 have h:((len:Int)==1+(k:Int))=true:=by simp;omega
 have f:IntKind.i64.wrap (1+(k:Int))=1+(k:Int):=by rw[IntKind.wrap];simp[IntKind.bits,IntKind.signed];omega
 have i:(0:Int)<(len:Int):=by omega
 cases hx:b==2
 ·go_enter func245,ntmps245;go_wp2_with fail
  go_ret
  exact⟨rfl,rfl⟩
 ·go_enter func245,ntmps245;go_wp2_with fail
  go_ret
  exact⟨rfl,rfl⟩
theorem EG(n:Nat)(p:List (Tm n))(a:ay)(pc B:Nat)(s:aq)(k:Nat)(w:ah)(d:fU B w n p a)(m:p.length<=8)(h:k<=8):au 245 #[ag a p.length pc,af s,ae k] w λe w'=>e=aw (.bool (uY n p s k))/\w'=w:=by
 by_cases c:p.length=1+k
 ·rcases d with d|⟨b,o,rfl,u,d⟩
  ·rw[d]at c;simp at c;omega
  ·obtain⟨f,i⟩:∃f,p[0]?=some f:=⟨p[0]'(by omega),aU _⟩;obtain⟨g,t⟩:=d 0 f i;cases n with
   | zero=>exact g.elim
   | succ n=>
    rw[Pe c i];obtain⟨j,q,l,r⟩:=g;exact Iq b o p.length pc s k f.1.1 f.1.2.2 w m h c (by simpa using j) (by simpa using l)
 ·rw[Gt c];exact Ir a p.length pc s k w h c
def kN(N:Nat)(o:Option (Tm N))(w:ah)(e:Ending)(w':ah):Prop:=
 ∃(a:Tm N)(b:Bool),e=aw (ax #[dF N a,.bool b])/\Hid (ap w w'/\In w'.heap.size w' N a/\cF (λd=>w.heap.size<=d) N a/\b=o.isSome/\∀c,o=some c->aJ N a N c=true)
def OJ(m:Nat)(b:List (Tm m))(self:Int)(n:Nat):Prop:=∀(x:Tm n)(a:ay)(c B:Nat)(w:ah),In B w n x->aL ⟨n,x⟩->fU B w m b a->B<=w.heap.size->
 au 231 #[.agg #[ag a 4 c,ae self],dF n x] w (kN (m+n) (vl m b self n x) w)
def OM{N:Nat}(o:Option (Tm N))(w:ah)(e:Ending)(w':ah):Prop:=
 ∃(c:Int)(b:Bool),e=aw (ax #[ae c,.bool b])/\Hid (ap w w'/\b=(o.isSome && o.all λa=>ci ⟨N,a⟩==1)/\∀a,o=some a->c=qr N a)
theorem EV{o:Option (Tm (N+1))}{y:Tm (N+1)}{r:Bool}(f:ap w w2)(d:ap w1 w2/\In w2.heap.size w2 (N+1) y/\cF (λq=>w1.heap.size<=q) (N+1) y/\r=o.isSome/\∀a,o=some a->aJ (N+1) y (N+1) a=true)(c:Bool)(g:c=(r && y.1.1==1)):ap w w2/\c=(o.isSome && o.all λa=>ci ⟨N+1,a⟩==1)/\∀a,o=some a->y.1.2.1=qr (N+1) a:=by
 obtain⟨_,_,_,e,b⟩:=d;refine⟨f,?_,λa h=>?_⟩
 ·rw[g,e];cases ho:o with
  | none=>rfl
  | some a=>
   have:=(bU (b a ho)).1;simp[ci,this]
 ·have:=(bU (b a h)).1;simp[qr,gL,bQ,this]
theorem JF(b:Below ((w.alloc p).alloc r).heap.size ((w.alloc p).alloc r) w'):ap w w':=by
 have a:ap w ((w.alloc p).alloc r):=(aV _ _).alloc (by simp) _;exact a.trans (b.mono a.size)
theorem uu(N:Nat)(o:Option (Tm (N+1)))(a:ay)(c:Nat)(self:Int)(k l:Int)(m:aq)(xa:ay)(n xc:Nat)(w:ah)(i:Hid (∀w1,ap w w1->au 231 #[.agg #[ag a 4 c,ae self],.agg #[ae k,ae l,af m,ag xa n xc]] w1 (kN (N+1) o w1))):au 250 #[.agg #[ag a 4 c,ae self],.agg #[ae k,ae l,af m,ag xa n xc]] w (OM o w):=by
 go_enter func250,ntmps250;go_wp2_with fail;refine(i _ ((aV _ _).alloc (by simp) _)).mono ?_;rintro s f ⟨d,q,rfl,e⟩;have HB:Hid (ap w f):=JF e.1;have j:dF (N+1) d=.agg #[ae d.1.1,ae d.1.2.1,af d.1.2.2,ag d.2.1.1 d.2.2.length d.2.1.2]:=rfl;rw[j];clear j i;have h:=λr p=>av (EV HB e r p);clear HB e;have g:Hid (∀o:Obj,ap w f->ap w (f.alloc o).drew):=λo b=>(b.alloc b.size o).drew;cases q
 ·go_wp2_with fail;go_region;go_wp2_with fail
  go_ret2
  have b:=(h false rfl).out;exact⟨_,_,rfl,g _ b.1,b.2⟩
 ·go_wp2_with fail;go_region;go_wp2_with fail
  go_ret2
  have b:=(h _ rfl).out;exact⟨_,_,rfl,g _ b.1,b.2⟩
def PR{N:Nat}(o:Option (Tm N)):Prop:=∀a,o=some a->ci ⟨N,a⟩=1-> -1099511627776<=qr N a/\qr N a<=1099511627776
def xN{N:Nat}(b d:Option (Tm N)):Option (Tm (N+1)):=b.bind λa=>d.bind λc=>uQ N a c
theorem N0{a d:Option (Tm N)}(b:(a.isSome && a.all λe=>ci ⟨N,e⟩==1)=false):xN a d=none:=by
 cases a with
 | none=>rfl
 | some f=>
  simp at b;cases d with
  | none=>rfl
  | some c=>simp[xN,uQ,AW,b]
theorem L8{d a:Option (Tm N)}(b:(a.isSome && a.all λe=>ci ⟨N,e⟩==1)=false):xN d a=none:=by
 cases d with
 | none=>rfl
 | some f=>
  cases a with
  | none=>rfl
  | some c=>
   simp at b;simp[xN,uQ,AW,b]
theorem L9{b d:Option (Tm N)}{e v:Int}(i:true=(b.isSome && b.all λa=>ci ⟨N,a⟩==1))(j:true=(d.isSome && d.all λa=>ci ⟨N,a⟩==1))(k:∀a,b=some a->e=qr N a)(l:∀a,d=some a->v=qr N a)(m:PR b)(n:PR d):xN b d=(if -1099511627776<=e+v/\e+v<=1099511627776 then some (cw 1 (e+v) N)else none)/\(-1099511627776<=e/\e<=1099511627776)/\(-1099511627776<=v/\v<=1099511627776):=by
 cases b with
 | none=>simp at i
 | some f=>
  cases d with
  | none=>simp at j
  | some c=>
   have g:ci ⟨N,f⟩=1:=by simpa using i.symm
   have h:ci ⟨N,c⟩=1:=by simpa using j.symm
   rw[k f rfl,l c rfl];refine⟨?_,m f rfl g,n c rfl h⟩;simp[xN,uQ,AW,g,h,qX]
theorem jR:dn 0:=by simp[dn]
theorem lX(N:Nat)(k a:Int)(b:dn k)(c:dn a)(B:Nat)(w:ah)(P:aW):In B w (N+1) (cw k a N)/\cF P (N+1) (cw k a N):=
 ⟨⟨⟨b,c,aM _,aM _,aM _⟩,ak rfl⟩,ak rfl⟩
theorem yx(N:Nat)(k a:Int):aJ (N+1) (cw k a N) (N+1) (cw k a N)=true:=dC rfl rfl
theorem ls(a:ap w w'):kN (N+1) none w (aw (ax #[.agg #[ae 0,ae 0,af .empty,ag none 0 0],.bool false])) w':=
 ⟨cw 0 0 N,false,rfl,a,(lX N 0 0 jR jR _ _ (λ_=>True)).1,(lX N 0 0 jR jR 0 w _).2,rfl,λc b=>by cases b⟩
theorem zy(d:ap w w')(k a:Int)(b:dn k)(c:dn a):kN (N+1) (some (cw k a N)) w (aw (ax #[.agg #[ae k,ae a,af .empty,ag none 0 0],.bool true])) w':=
 ⟨cw k a N,true,rfl,d,(lX N k a b c _ _ (λ_=>True)).1,(lX N k a b c 0 w _).2,rfl,λf e=>by obtain rfl:=aI e;exact yx N k a⟩
theorem nZ(w:ah)(a b c d:Obj):ap w ((((w.alloc a).alloc b).alloc c).alloc d):=(((aV _ _).alloc (by simp) _).alloc (by simp;omega) _).alloc (by simp;omega) _
def oN(q:Nat)(w:ah):Prop:=(w.cell? ⟨q,0,none⟩=some (ae 0)/\w.cell? ⟨q,1,none⟩=some (ae 0)/\w.cell? ⟨q,2,none⟩=some (af .empty)/\w.cell? ⟨q,3,none⟩=some (ag none 0 0))/\(w.frozen? ⟨q,0,none⟩=false/\w.frozen? ⟨q,1,none⟩=false/\w.frozen? ⟨q,2,none⟩=false/\w.frozen? ⟨q,3,none⟩=false)/\q<w.heap.size
theorem oN.below(e:oN q w)(c:ap w w'):oN q w':=by
 obtain⟨⟨f,g,h,i⟩,⟨f0,f1,f2,f3⟩,d⟩:=e;have a:=λo=>c.cell (p:=⟨q,o,none⟩) d;have b:=λo=>c.frozen (p:=⟨q,o,none⟩) d;exact⟨⟨(a 0).trans f,(a 1).trans g,(a 2).trans h,(a 3).trans i⟩,⟨(b 0).trans f0,(b 1).trans f1,(b 2).trans f2,(b 3).trans f3⟩,bf d c.size⟩
theorem Ex(a:Below ((((w.alloc (.cells #[s0,s1] t1)).alloc (.cells #[f,i,j,l] t2)).alloc (.cells #[y0,y1,y2,u] t3)).alloc (.cells #[ae 0,ae 0,af .empty,ag none 0 0] t4)).heap.size ((((w.alloc (.cells #[s0,s1] t1)).alloc (.cells #[f,i,j,l] t2)).alloc (.cells #[y0,y1,y2,u] t3)).alloc (.cells #[ae 0,ae 0,af .empty,ag none 0 0] t4)) w'):(ai w' w.heap.size 0 s0/\ai w' w.heap.size 1 s1)/\ (w'.cell? ⟨w.heap.size+1+1,0,none⟩=some y0/\w'.cell? ⟨w.heap.size+1+1,1,none⟩=some y1/\w'.cell? ⟨w.heap.size+1+1,2,none⟩=some y2/\w'.cell? ⟨w.heap.size+1+1,3,none⟩=some u)/\oN (w.heap.size+1+1+1) w':=by
 have g:=a.size;simp at g;have e:=λo=>a.cell (p:=⟨w.heap.size,o,none⟩) (by simp;omega);have b:=λo=>a.cell (p:=⟨w.heap.size+1+1,o,none⟩) (by simp;try omega);have d:=λo=>a.cell (p:=⟨w.heap.size+1+1+1,o,none⟩) (by simp);have c:=λo=>a.frozen (p:=⟨w.heap.size+1+1+1,o,none⟩) (by simp)
 exact⟨⟨(e 0).trans (by simp[go_sem]),(e 1).trans (by simp[go_sem])⟩,⟨(b 0).trans (by simp[go_sem]),(b 1).trans (by simp[go_sem]),(b 2).trans (by simp[go_sem]),(b 3).trans (by simp[go_sem])⟩,
  ⟨(d 0).trans (by simp[go_sem]),(d 1).trans (by simp[go_sem]),(d 2).trans (by simp[go_sem]),(d 3).trans (by simp[go_sem])⟩,⟨(c 0).trans (by simp[go_sem]),(c 1).trans (by simp[go_sem]),(c 2).trans (by simp[go_sem]),(c 3).trans (by simp[go_sem])⟩,by omega⟩
theorem dx(a:ap w w')(c:w.heap.size<=q)(v0 v1 v2 v3:az):ap w (dk w' q 0 v0 v1 v2 v3):=
 ⟨a.os,a.tape,a.output,aF a.size (cR (bJ _ _ _ _).symm),λk b=>(bw (by omega) _ _ _ _).trans (a.block k b)⟩
theorem Ma(N:Nat)(p q:Option (Tm N))(B:Hid (PR p))(C:Hid (PR q))(a:ay)(c:Nat)(self:Int)(D E:Int)(F:aq)(xa:ay)(G xc:Nat)(y0 y1:Int)(y2:aq)(ya:ay)(yl yc:Nat)(w:ah)(u:Hid (∀w1,ap w w1->au 250 #[.agg #[ag a 4 c,ae self],.agg #[ae D,ae E,af F,ag xa G xc]] w1 (OM p w1)))(x:Hid (∀w1,ap w w1->au 250 #[.agg #[ag a 4 c,ae self],.agg #[ae y0,ae y1,af y2,ag ya yl yc]] w1 (OM q w1))):au 246 #[.agg #[ag a 4 c,ae self],.agg #[ae D,ae E,af F,ag xa G xc],.agg #[ae y0,ae y1,af y2,ag ya yl yc]] w (kN (N+1) (xN p q) w):=by
 obtain⟨o,t⟩:∃o,o=xN p q:=⟨_,rfl⟩;rw[<-t];have l:=av t;clear t;go_enter func246,ntmps246;go_wp2_with fail;refine(u _ (nZ _ _ _ _ _)).mono ?_;rintro K O ⟨b,j,rfl,d⟩;obtain⟨⟨L,M⟩,⟨d0,d1,d2,d3⟩,A⟩:=Ex d.1;have r:=av A;have HB:Hid (ap w O):=(nZ _ _ _ _ _).trans (d.1.mono (nZ _ _ _ _ _).size);have m:Hid (j=_/\_):=d.2;clear u d A;cases j
 ·have e:Hid (o=none):=l.trans (N0 m.1.symm);obtain⟨⟨f,g,h,i⟩,⟨f0,f1,f2,f3⟩,_⟩:=r.out;go_wp2_with fail;rw[e.out];exact aD (v:=ax #[.agg #[ae 0,ae 0,af .empty,ag none 0 0],.bool false]) (by simp[results,results246,go_sem,f,g,h,i];rfl) rfl (ls (dx HB (by omega) _ _ _ _))
 ·go_wp2_with fail;refine(x _ HB).mono ?_;rintro K P ⟨v,j,rfl,d⟩;have k:Hid (ap w P):=HB.trans (d.1.mono HB.size);have n:Hid (j=_/\_):=d.2;have H:=av (r.below d.1);obtain⟨⟨f,g,h,i⟩,⟨f0,f1,f2,f3⟩,_⟩:=H;clear x d HB L M d0 d1 d2 d3 r;cases j
  ·have e:Hid (o=none):=l.trans (L8 n.1.symm);go_wp2_with fail;rw[e.out];exact aD (v:=ax #[.agg #[ae 0,ae 0,af .empty,ag none 0 0],.bool false]) (by simp[results,results246,go_sem,f,g,h,i];rfl) rfl (ls (dx k (by omega) _ _ _ _))
  ·obtain⟨es,⟨R,S⟩,T,U⟩:=L9 m.1 n.1 m.2 n.2 B C;have s:Hid (o=if -1099511627776<=b+v/\b+v<=1099511627776 then some (cw 1 (b+v) N)else none):=l.trans es;have Q:IntKind.i64.wrap (b+v)=b+v:=by rw[IntKind.wrap];simp[IntKind.bits,IntKind.signed];omega
   clear l m n es B C;by_cases y:b+v< -1099511627776
   ·have I:decide (b+v< -1099511627776)=true:=by simpa using y
    have e:Hid (o=none):=s.trans (if_neg (by omega));go_wp2_with fail;rw[e.out];exact aD (v:=ax #[.agg #[ae 0,ae 0,af .empty,ag none 0 0],.bool false]) (by simp[results,results246,go_sem,f,g,h,i];rfl) rfl (ls (dx k (by omega) _ _ _ _))
   ·have I:decide (b+v< -1099511627776)=false:=by simpa using y
    by_cases z:1099511627776<b+v
    ·have J:decide (1099511627776<b+v)=true:=by simpa using z
     have e:Hid (o=none):=s.trans (if_neg (by omega));go_wp2_with fail;rw[e.out];exact aD (v:=ax #[.agg #[ae 0,ae 0,af .empty,ag none 0 0],.bool false]) (by simp[results,results246,go_sem,f,g,h,i];rfl) rfl (ls (dx k (by omega) _ _ _ _))
    ·have J:decide (1099511627776<b+v)=false:=by simpa using z
     have e:Hid (o=some (cw 1 (b+v) N)):=s.trans (if_pos (by omega));go_wp2_with fail;rw[e.out];exact aD (v:=ax #[.agg #[ae 1,ae (b+v),af .empty,ag none 0 0],.bool true]) (by simp[results,results246,go_sem,f,g,h,i];rfl) rfl (zy (dx k (by omega) _ _ _ _) 1 (b+v) (by simp[dn]) ⟨by omega,by omega⟩)
def xn{n N:Nat}(f:Tm n->Option (Tm N))(p:List (Tm n)):List (Tm N):=p.map λy=>(f y).getD (bj N 0 ())
def On{n N:Nat}(f:Tm n->Option (Tm N))(p:List (Tm n))(k:Nat):Prop:=∀(i:Nat)(y:Tm n),i<k->p[i]?=some y->(f y).isSome=true
theorem Mo{f:Tm n->Option (Tm N)}{p:List (Tm n)}(c:On f p k)(h:p.length<=k):cZ f p=some (xn f p):=by
 refine xX f _ p λb e=>?_;obtain⟨g,a⟩:=di e;have i:=(bi.1 a).1;have:=c g b (by omega) a;cases d:f b with
 | none=>rw[d]at this;cases this
 | some j=>rfl
theorem On.next{f:Tm n->Option (Tm N)}{p:List (Tm n)}{x:Tm n}(d:On f p k)(g:p[k]?=some x)(e:true=(f x).isSome):On f p (k+1):=by
 intro b h i a;by_cases c:b=k
 ·subst c;rw[g]at a;obtain rfl:=aI a;exact e.symm
 ·exact d b h (by omega) a
theorem N9{f:Tm n->Option (Tm N)}{p:List (Tm n)}{x:Tm n}(d:p[k]?=some x)(c:true=(f x).isSome):∃a,(xn f p)[k]?=some a/\f x=some a:=by
 cases b:f x with
 | none=>rw[b]at c;cases c
 | some a=>exact⟨a,by simp[xn,d,b],rfl⟩
theorem JD{P:List (Tm N)}{l:List (Tm N)}(j:vn N P len g k l wr)(v:P.length=len)(p:k=len)(n:ap w wr)(x:len<=8)(q:Nat)(r:w.heap.size<=q)(y:q<g)(v0 v1 v2 v3:az):kN (N+1) (some (dS N P)) w (aw (ax #[.agg #[ae 4,ae 0,af .empty,ag (some ⟨g,0,none⟩) len len],.bool true])) (dk wr q 0 v0 v1 v2 v3):=by
 obtain⟨m,c,e,f⟩:=j;subst p;rw[bG (by omega)]at f;rw[ir,nM,eE]at c;refine⟨((4,0,.empty),(some ⟨g,0,none⟩,k),l),true,?_,dx n r _ _ _ _,?_,?_,rfl,λz t=>?_⟩
 ·simp only[dF,m]
 ·refine⟨⟨by simp[dn],by simp[dn],aM _,by simp only;omega,by unfold maxLen;simp only;omega⟩,am ⟨g,0,rfl,by rw[bJ];exact c.lt.2,λh b a=>?_⟩⟩;obtain⟨i,u⟩:=e b (aT a);have o:=c.cells h ⟨N,b⟩ (by simp[a]);refine⟨eg.block (bw (by omega) _ _ _ _) ?_,?_⟩
  ·cases N with
   | zero=>exact i.elim
   | succ N=>
    rw[cB];exact o
  ·rw[bJ];exact In.off (P:=λd=>g<d) (λd s=>bw (by omega) _ _ _ _) u i
 ·exact am ⟨g,0,rfl,by omega,λh b a=>(e b (aT a)).2.mono λd s=>by omega⟩
 ·obtain rfl:=aI t;exact dC rfl f
theorem Mp(f:Tm n->Option (Tm N))(p:List (Tm n)):(xn f p).length=p.length:=by simp[xn]
theorem vn.grow{P:List (Tm N)}{l:List (Tm N)}(e:vn N P len g k l w)(a:ap w w'):vn N P len g k l w':=by
 obtain⟨f,h,b,i⟩:=e;exact⟨f,h.below a,λd c=>⟨((b d c).1.below a).mono a.size,(b d c).2⟩,i⟩
theorem oN.block(d:oN q w)(c:w'.heap[q]?=w.heap[q]?)(j:w.heap.size<=w'.heap.size):oN q w':=by
 obtain⟨⟨e,f,g,h⟩,⟨f0,f1,f2,f3⟩,i⟩:=d;have a:=λo=>bM c o;have b:∀o,w'.frozen? ⟨q,o,none⟩=w.frozen? ⟨q,o,none⟩:=λo=>by simp[World.frozen?,c]
 exact⟨⟨(a 0).trans e,(a 1).trans f,(a 2).trans g,(a 3).trans h⟩,⟨(b 0).trans f0,(b 1).trans f1,(b 2).trans f2,(b 3).trans f3⟩,bf i j⟩
theorem wa(a:w.grownBy w' none):ap w w':=⟨a.os,a.tape,a.output,a.size,λk b=>a.block k b (by simp)⟩
theorem zN(f:((w.alloc (.cells #[s0,s1] t1)).alloc (.cells #[ae 0,ae 0,af .empty,ag none 0 0] t2)).grownBy w' none):ap w w'/\(ai w' w.heap.size 0 s0/\ai w' w.heap.size 1 s1)/\oN (w.heap.size+1) w':=by
 have a:=wa f;have g:=a.size;simp at g;have d:ap w ((w.alloc (.cells #[s0,s1] t1)).alloc (.cells #[ae 0,ae 0,af .empty,ag none 0 0] t2)):=(aV _ _).alloc (by simp) _;have e:=λo=>a.cell (p:=⟨w.heap.size,o,none⟩) (by simp;omega);have c:=λo=>a.cell (p:=⟨w.heap.size+1,o,none⟩) (by simp);have b:=λo=>a.frozen (p:=⟨w.heap.size+1,o,none⟩) (by simp)
 exact⟨d.trans (a.mono d.size),⟨(e 0).trans (by simp[go_sem]),(e 1).trans (by simp[go_sem])⟩,
  ⟨(c 0).trans (by simp[go_sem]),(c 1).trans (by simp[go_sem]),(c 2).trans (by simp[go_sem]),(c 3).trans (by simp[go_sem])⟩,⟨(b 0).trans (by simp[go_sem]),(b 1).trans (by simp[go_sem]),(b 2).trans (by simp[go_sem]),(b 3).trans (by simp[go_sem])⟩,by omega⟩
theorem Dx(m:Nat)(b:List (Tm m))(self:Int)(n:Nat)(ih:Hid (OJ m b self n))(p:List (Tm n))(len:Nat)(W:Hid (p.length=len))(pa:ay)(pc:Nat)(a:ay)(c B:Nat)(w:ah)(a1:len<=8)(V:Hid (fU B w n p pa))(a3:Hid (∀y∈p,aL ⟨n,y⟩))(aC:Hid (fU B w m b a))(H:B<=w.heap.size):au 247 #[.agg #[ag a 4 c,ae self],ag pa len pc] w (kN (m+n+1) ((cZ (λy=>vl m b self n y) p).map (dS (m+n))) w):=by
 obtain⟨o,T⟩:∃o,o=(cZ (λy=>vl m b self n y) p).map (dS (m+n)):=⟨_,rfl⟩;rw[<-T];have aq:=av T;clear T;obtain⟨a5,hit,aM,aN,aO⟩:=bS gM;go_enter func247,ntmps247;go_wp2_with (at_make;refine lM _ rfl _ _ 52 rfl _ 54 a5 _ 4 underlying52 hit aM aN _ _ _ _ len rfl rfl rfl rfl (by rw[aO];omega) (by unfold maxLen;omega) (aA _) ?_;intro h aI S;have t:=av (rZ (m+n) (xn (λy=>vl m b self n y) p) len aI);have aW:=av (wa S);have aw:=av (zN S);clear aI S hit aM aN aO);have es:((w.alloc (.cells #[ag a 4 c,ae self] 313)).alloc (.cells #[ae 0,ae 0,af ⟨#[]⟩,ag none 0 0] 54)).heap.size=w.heap.size+1+1:=by simp
 rw[es]at t;clear es aW;obtain⟨aE,aG,D⟩:=aw.out
 have an:Hid (ap w h/\(ai h w.heap.size 0 (ag a 4 c)/\ai h w.heap.size 1 (ae self))/\oN (w.heap.size+1) h/\On (λy=>vl m b self n y) p 0/\∃l,vn (m+n) (xn (λy=>vl m b self n y) p) len (w.heap.size+1+1) 0 l h):=
  ⟨aE,aG,D,λs y bm _=>by omega,[],t.out⟩
 clear aw t aE aG D;go_wp2_with fail;go_loopw [16] (λs wr=>∃k:Nat,k<=len/\s=ae k/\Hid (ap w wr/\(wr.cell? ⟨w.heap.size,0,none⟩=some (ag a 4 c)/\wr.cell? ⟨w.heap.size,1,none⟩=some (ae self))/\oN (w.heap.size+1) wr/\On (λy=>vl m b self n y) p k/\∃l,vn (m+n) (xn (λy=>vl m b self n y) p) len (w.heap.size+1+1) k l wr)) (λs _=>len-(intOf s).toNat)
 case atStart=>exact⟨0,by omega,rfl,an.out⟩
 case round=>
  obtain⟨k,bn,rfl,ar⟩:=hrel;clear an;obtain⟨i,⟨Z,aa⟩,G,x,l,j⟩:Hid (ap w wr)/\(ai wr w.heap.size 0 (ag a 4 c)/\ai wr w.heap.size 1 (ae self))/\Hid (oN (w.heap.size+1) wr)/\Hid (On (λy=>vl m b self n y) p k)/\∃l,Hid (vn (m+n) (xn (λy=>vl m b self n y) p) len (w.heap.size+1+1) k l wr):=ar.out;clear ar;by_cases aH:k<len
  ·obtain⟨d,u⟩:∃d,p[k]?=some d:=⟨p[k]'(by rw[W.out];exact aH),aU _⟩;obtain⟨E,po,rfl,a2,aJ⟩:∃E po,pa=some ⟨E,po,none⟩/\E<B/\∀(s:Nat)(y:Tm n),p[s]?=some y->eg w E (po+s*4) n y/\In B w n y:=by
    rcases V.out with P|P
    ·rw[P]at u;simp at u
    ·exact P
   obtain⟨I,J⟩:=aJ k d u;have N:=av u;have aY:=av (a3.out d (aT u));replace I:=I.below (i.out.mono H) a2;replace J:=J.below (i.out.mono H);have Q:B<=wr.heap.size:=aF H i.out.size
   have F:Hid (∀h,ap wr h->au 231 #[.agg #[ag a 4 c,ae self],dF n d] h (kN (m+n) (vl m b self n d) h)):=
    λh g=>ih.out d a c B h (J.below (g.mono Q)) aY.out ((aC.out.below (i.out.mono H)).below (g.mono Q)) (aF Q g.size)
   obtain⟨Y,U⟩:∃Y,Y=vl m b self n d:=⟨_,rfl⟩;rw[<-U]at F;have L:=av U;clear aJ u V U J;cases n with
   | zero=>exact I.elim
   | succ n=>
   obtain⟨bc,bd,be,bf⟩:=I;have A:dF (n+1) d=.agg #[ae d.1.1,ae d.1.2.1,af d.1.2.2,ag d.2.1.1 d.2.2.length d.2.1.2]:=rfl;rw[A]at F;clear A;generalize d.2.2.length=br at*;have bo:(0:Int)<=(k:Int):=by omega
   have bp:(k:Int)<(len:Int):=by omega
   have bq:E<wr.heap.size:=by omega
   have aK:w.heap.size<wr.heap.size:=by have:=G.out.2.2;omega
   go_wp2_with fail;refine(F.out _ (aV _ _)).mono ?_;rintro bk e ⟨y,a7,rfl,q⟩;have r:Hid (ap wr e):=(aV _ _).trans (q.out.1.mono (by simp));have az:Hid (ap w e):=i.out.trans (r.out.mono i.out.size);have O:=av (G.out.below r.out);replace Z:=(aB r.out _ _ aK).trans Z;replace aa:=(aB r.out _ _ aK).trans aa;have A:dF (m+(n+1)) y=.agg #[ae y.1.1,ae y.1.2.1,af y.1.2.2,ag y.2.1.1 y.2.2.length y.2.1.2]:=rfl;rw[A];clear F bc bd be bf G A;cases a7
   ·have K:Hid (o=none):=by
      have g:vl m b self (n+1) d=none:=by
       have:=q.out.2.2.2.1;rw[<-L.out];cases Y with
       | none=>rfl
       | some ab=>cases this
      show o=none;rw[aq.out,mS _ p k d N.out g];rfl
    obtain⟨⟨ad,aj,ak,al⟩,⟨f0,f1,f2,f3⟩,aQ⟩:=O.out;clear q j x;go_wp2_with fail;rw[K.out];exact aD (v:=ax #[.agg #[ae 0,ae 0,af .empty,ag none 0 0],.bool false]) (by simp[results,results247,go_sem,ad,aj,ak,al,aQ];rfl) rfl (ls ((dx az.out (by omega) _ _ _ _).alloc (by rw[bJ];omega) _))
   ·have R:true=(vl m b self (n+1) d).isSome:=by rw[<-L.out];exact q.out.2.2.2.1
    obtain⟨ab,D,aP⟩:=N9 (f:=λy=>vl m b self (n+1) y) N.out R;have ao:=av (x.out.next N.out R);have t:=av (j.out.step aH ab D r.out y q.out.2.1 (q.out.2.2.1.mono λaS X=>by have:=j.out.2.1.lt.2;simp at X;omega) (q.out.2.2.2.2 ab (by rw[L.out];exact aP)));have z:=av (j.out.2.1.below r.out);have M:Hid (ap w (jX e (w.heap.size+1+1) (k*4) (gL (m+(n+1)) y))):=by
     have g:=az.out;exact⟨g.os,g.tape,g.output,aF g.size (cR (bJ _ _ _ _).symm),λaS X=>(bw (by omega) _ _ _ _).trans (g.block aS X)⟩
    have aX:Hid (∀o:Obj,ap w ((jX e (w.heap.size+1+1) (k*4) (gL (m+(n+1)) y)).alloc o)/\(((jX e (w.heap.size+1+1) (k*4) (gL (m+(n+1)) y)).alloc o).cell? ⟨w.heap.size,0,none⟩=some (ag a 4 c)/\((jX e (w.heap.size+1+1) (k*4) (gL (m+(n+1)) y)).alloc o).cell? ⟨w.heap.size,1,none⟩=some (ae self))/\oN (w.heap.size+1) ((jX e (w.heap.size+1+1) (k*4) (gL (m+(n+1)) y)).alloc o)/\On (λy=>vl m b self (n+1) y) p (k+1)/\∃l,vn (m+(n+1)) (xn (λy=>vl m b self (n+1) y) p) len (w.heap.size+1+1) (k+1) l ((jX e (w.heap.size+1+1) (k*4) (gL (m+(n+1)) y)).alloc o)):=by
     intro o;have C:Below (jX e (w.heap.size+1+1) (k*4) (gL (m+(n+1)) y)).heap.size (jX e (w.heap.size+1+1) (k*4) (gL (m+(n+1)) y)) ((jX e (w.heap.size+1+1) (k*4) (gL (m+(n+1)) y)).alloc o):=aV _ _;have a4:(jX e (w.heap.size+1+1) (k*4) (gL (m+(n+1)) y)).heap.size=e.heap.size:=bJ _ _ _ _;have a0:=z.out.lt.2;refine⟨M.out.trans (C.mono M.out.size),⟨?_,?_⟩,?_,ao.out,l++ [y],t.out.grow C⟩
     ·exact(aB C _ _ (by omega)).trans ((bM (bw (by omega) _ _ _ _) _).trans Z)
     ·exact(aB C _ _ (by omega)).trans ((bM (bw (by omega) _ _ _ _) _).trans aa)
     ·refine oN.below ?_ C;exact O.out.block (bw (by omega) _ _ _ _) (cR a4.symm)
    obtain⟨am,aR⟩:∃am,(l.map (λd=>(⟨m+(n+1),d⟩:An))++List.replicate (len-k) zA)[k]?=some am:=⟨_,aU (by simp[j.out.1];omega)⟩;obtain⟨bg,bh,bi,bj⟩:=z.out.cells k am aR;have bl:=λa6=>z.out.free a6;have a0:w.heap.size+1+1<e.heap.size:=z.out.lt.2;clear q j x r i t ao M z aR O D aP R;go_wp2_with fail;go_roundw
    case rel=>exact⟨k+1,by omega,by go_num,aX.out _⟩
    case measure=>simp[intOf];omega
  ·obtain rfl:k=len:=by omega
   have K:Hid (o=some (dS (m+n) (xn (λy=>vl m b self n y) p))):=by
    show o=_;rw[aq.out,Mo x.out (by rw[W.out];exact aA _)];rfl
   have aZ:=λa8 a9 ba bb=>av (JD j.out (by rw[Mp];exact W.out) rfl i.out a1 (w.heap.size+1) (by omega) (by omega) a8 a9 ba bb);obtain⟨⟨ad,aj,ak,al⟩,⟨f0,f1,f2,f3⟩,aQ⟩:=G.out;clear x j i V aC;go_wp2_with fail;rw[K.out];exact aD (v:=ax #[.agg #[ae 4,ae 0,af .empty,ag (some ⟨w.heap.size+1+1,0,none⟩) k k],.bool true]) (by simp[results,results247,go_sem,ad,aj,ak,al];rfl) rfl (aZ _ _ _ _).out
theorem Cy{P:aW}:(N n:Nat)->n<=N->(x:Tm n)->cF P n x->cF P N (bj N n x)
 | _,0,_,_,k=>k.elim
 | 0,n+1,h,_,_=>by omega
 | N+1,n+1,h,x,k=>by
  rcases k with k|⟨b,o,e,d,k⟩
  ·exact ak (by simp[bj,k])
  ·refine am ⟨b,o,e,d,λi y a=>?_⟩;simp only[bj,dh]at a;obtain⟨c,f,rfl⟩:=cI.1 a;exact Cy N n (by omega) c (k i c f)
theorem Lg(N n:Nat)(x:Tm (n+1)):dF (N+1) (bj (N+1) (n+1) x)=dF (n+1) x:=by simp[dF,bj]
theorem Lf(d:n<=N){x y:Tm (n+1)}(a:aL ⟨n+1,x⟩)(b:aJ (n+1) y (n+1) x=true):aJ (N+1) (bj (N+1) (n+1) y) (N+1) (bj (N+1) (n+1) x)=true:=by
 have c:aL ⟨n+1,y⟩:=aY.2 (by rw[j0 _ _ _ _ b];exact aY.1 a);exact bV _ _ _ _ _ _ (fR (N+1) (n+1) (by omega) y c) (bV _ _ _ _ _ _ b (dE _ _ _ _ (fR (N+1) (n+1) (by omega) x a)))
theorem JK(b:n<=N){x y:Tm (n+1)}(f:aL ⟨n+1,x⟩)(c:ap w w')(d:In w'.heap.size w' (n+1) y)(e:cF (λq=>w.heap.size<=q) (n+1) y)(g:aJ (n+1) y (n+1) x=true)(r:Bool):kN (N+1) (if r then some (bj (N+1) (n+1) x)else none) w (aw (ax #[.agg #[ae y.1.1,ae y.1.2.1,af y.1.2.2,ag y.2.1.1 y.2.2.length y.2.1.2],.bool r])) w':=by
 refine⟨bj (N+1) (n+1) y,r,by rw[Lg];rfl,c,pP _ _ (by omega) _ _ _ d,Cy _ _ (by omega) _ e,by cases r<;>rfl,λh a=>?_⟩;cases r with
 | false=>cases a
 | true=>
  obtain rfl:=aI a;exact Lf b f g
theorem xp{o:Option (Tm (N+1))}{y:Tm (N+1)}{r:Bool}(c:ap w w1)(k:w.heap.size<=q)(m:q<w1.heap.size)(e:ap w1 w2/\In w2.heap.size w2 (N+1) y/\cF (λq=>w1.heap.size<=q) (N+1) y/\r=o.isSome/\∀d,o=some d->aJ (N+1) y (N+1) d=true)(v0 v1 v2 v3:az):kN (N+1) o w (aw (ax #[.agg #[ae y.1.1,ae y.1.2.1,af y.1.2.2,ag y.2.1.1 y.2.2.length y.2.1.2],.bool r])) (dk w2 q 0 v0 v1 v2 v3):=by
 obtain⟨f,g,a,h,i⟩:=e;have l:=c.size;refine⟨y,r,rfl,dx (c.trans (f.mono l)) k _ _ _ _,?_,a.mono λb j=>by omega,h,i⟩;rw[bJ];exact In.off (P:=λb=>w1.heap.size<=b) (λb j=>bw (by omega) _ _ _ _) a g
theorem xq(h:n<=N){x y:Tm (n+1)}{g:ah}(p:aL ⟨n+1,x⟩)(e:ap w w1)(o:w.heap.size<=q)(s:q<w1.heap.size)(k:ap w1 w2/\In w2.heap.size w2 (n+1) y/\cF (λq=>w1.heap.size<=q) (n+1) y/\aJ (n+1) y (n+1) x=true)(a:ap w2 g)(r:Bool)(v0 v1 v2 v3:az):kN (N+1) (if r then some (bj (N+1) (n+1) x)else none) w (aw (ax #[.agg #[ae y.1.1,ae y.1.2.1,af y.1.2.2,ag y.2.1.1 y.2.2.length y.2.1.2],.bool r])) (dk g q 0 v0 v1 v2 v3):=by
 obtain⟨c,i,d,j⟩:=k;have f:=e.size;have l:=(e.trans (c.mono f)).trans (a.mono (aF f c.size));refine JK h p (dx l o _ _ _ _) ?_ (d.mono λb m=>by omega) j r;rw[bJ];exact In.off (P:=λb=>w1.heap.size<=b) (λb m=>bw (by omega) _ _ _ _) d ((i.below a).mono a.size)
theorem A4:ap w ((w.alloc (.cells #[s0,s1] t1)).alloc (.cells #[ae 0,ae 0,af .empty,ag none 0 0] t2))/\oN (w.heap.size+1) ((w.alloc (.cells #[s0,s1] t1)).alloc (.cells #[ae 0,ae 0,af .empty,ag none 0 0] t2)):=by
 have a:=zN (w:=w) (s0:=s0) (s1:=s1) (t1:=t1) (t2:=t2) (w':=(w.alloc (.cells #[s0,s1] t1)).alloc (.cells #[ae 0,ae 0,af .empty,ag none 0 0] t2)) (gS _ _);exact⟨a.1,a.2.2⟩
theorem A5(a:w1=(w.alloc (.cells #[s0,s1] t1)).alloc (.cells #[ae 0,ae 0,af .empty,ag none 0 0] t2)):ap w w1/\oN (w.heap.size+1) w1/\w1.cell? ⟨w.heap.size,0,none⟩=some s0/\w1.cell? ⟨w.heap.size,1,none⟩=some s1:=by
 subst a;have a:=zN (w:=w) (s0:=s0) (s1:=s1) (t1:=t1) (t2:=t2) (w':=(w.alloc (.cells #[s0,s1] t1)).alloc (.cells #[ae 0,ae 0,af .empty,ag none 0 0] t2)) (gS _ _);exact⟨a.1,a.2.2,a.2.1.1,a.2.1.2⟩
theorem Ob(N:Nat)(o:Option (Tm (N+1)))(a:ay)(c:Nat)(self:Int)(j:dn self)(pa:ay)(len:Nat)(pc:Nat)(w:ah)(d:Hid (∀w1,ap w w1->au 245 #[ag pa len pc,af qF,ae 0] w1 λe w'=>e=aw (.bool true)/\w'=w1))(i:Hid (o=some (cw 3 self N))):au 239 #[.agg #[ag a 4 c,ae self],ag pa len pc] w (kN (N+1) o w):=by
 go_enter func239,ntmps239;go_wp2_with fail;refine(d _ A4.1).mono ?_;rintro e w1 ⟨rfl,g⟩;obtain⟨f,b,r,s⟩:=A5 g;have HB:=av f;have h:=av b;have p:w.heap.size<w1.heap.size:=by have:=b.2.2;omega
 clear g f b d;obtain⟨⟨k,l,m,n⟩,⟨f0,f1,f2,f3⟩,q⟩:=h;go_wp2_with fail;rw[i.out];exact aD (v:=ax #[.agg #[ae 3,ae self,af .empty,ag none 0 0],.bool true]) (by simp[results,results239,go_sem,k,l,m,n];rfl) rfl (zy (dx HB (by omega) _ _ _ _) 3 self (by simp[dn]) j)
theorem PD(N:Nat)(o:Option (Tm (N+1)))(a:ay)(c:Nat)(self:Int)(b po:Nat)(j k:Int)(l:aq)(xa:ay)(m xc:Nat)(y0 y1:Int)(y2:aq)(ya:ay)(yl yc:Nat)(pc:Nat)(w:ah)(p:Hid (∀w1,ap w w1->au 245 #[ag (some ⟨b,po,none⟩) 3 pc,af qF,ae 0] w1 λe w'=>e=aw (.bool false)/\w'=w1))(D:Hid (∀w1,ap w w1->au 245 #[ag (some ⟨b,po,none⟩) 3 pc,af A7,ae 2] w1 λe w'=>e=aw (.bool true)/\w'=w1))(g:b<w.heap.size)(G:w.cell? ⟨b,po+4,none⟩=some (ae j)/\w.cell? ⟨b,po+4+1,none⟩=some (ae k)/\w.cell? ⟨b,po+4+2,none⟩=some (af l)/\w.cell? ⟨b,po+4+3,none⟩=some (ag xa m xc))(H:w.cell? ⟨b,po+8,none⟩=some (ae y0)/\w.cell? ⟨b,po+8+1,none⟩=some (ae y1)/\w.cell? ⟨b,po+8+2,none⟩=some (af y2)/\w.cell? ⟨b,po+8+3,none⟩=some (ag ya yl yc))(E:Hid (∀w1,ap w w1->au 246 #[.agg #[ag a 4 c,ae self],.agg #[ae j,ae k,af l,ag xa m xc],.agg #[ae y0,ae y1,af y2,ag ya yl yc]] w1 (kN (N+1) o w1))):au 239 #[.agg #[ag a 4 c,ae self],ag (some ⟨b,po,none⟩) 3 pc] w (kN (N+1) o w):=by
 go_enter func239,ntmps239;go_wp2_with fail;refine(p _ A4.1).mono ?_;rintro e w1 ⟨rfl,r⟩;obtain⟨q,i,Z,aa⟩:=A5 r;have HB:=av q;have n:=av i;have X:w.heap.size<w1.heap.size:=by have:=i.2.2;omega
 clear r q i p;have f:=aB HB;obtain⟨s,t,u,x⟩:=G;obtain⟨y,z,A,B⟩:=H;replace s:=(f _ _ g).trans s;replace t:=(f _ _ g).trans t;replace u:=(f _ _ g).trans u;replace x:=(f _ _ g).trans x;replace y:=(f _ _ g).trans y;replace z:=(f _ _ g).trans z;replace A:=(f _ _ g).trans A;replace B:=(f _ _ g).trans B;clear f;go_wp2_with fail;refine(D _ HB).mono ?_;rintro e P ⟨rfl,rfl⟩;have W:b<P.heap.size:=bf g HB.size;have U:¬(w.heap.size+1=b):=by omega
 have V:¬(b=w.heap.size+1):=by omega
 have I:∀d:Tm (N+1),dF (N+1) d=.agg #[ae d.1.1,ae d.1.2.1,af d.1.2.2,ag d.2.1.1 d.2.2.length d.2.1.2]:=λ_=>rfl;go_wp2_with fail
 go_region_held3 (λw'=>w'.cell? ⟨w.heap.size,0,none⟩=some (ag a 4 c)/\w'.cell? ⟨w.heap.size,1,none⟩=some (ae self)/\w'.cell? ⟨b,po+4,none⟩=some (ae j)/\w'.cell? ⟨b,po+4+1,none⟩=some (ae k)/\w'.cell? ⟨b,po+4+2,none⟩=some (af l)/\w'.cell? ⟨b,po+4+3,none⟩=some (ag xa m xc)
     /\w'.cell? ⟨b,po+8,none⟩=some (ae y0)/\w'.cell? ⟨b,po+8+1,none⟩=some (ae y1)/\w'.cell? ⟨b,po+8+2,none⟩=some (af y2)/\w'.cell? ⟨b,po+8+3,none⟩=some (ag ya yl yc))
  (go_keep) ((go_at_call 246;refine(E _ HB.drew).mono ?_;rintro e ab ⟨d,J,rfl,h⟩;rw[I];have f:=aB (dd h.1);have C:=av (n.below (dd h.1));obtain⟨⟨Q,R,S,T⟩,⟨f0,f1,f2,f3⟩,Y⟩:=C))
 have F:=λK L M O=>av (xp HB.drew (ku _ 1) n.2.2 h K L M O);clear h f;go_wp2_with fail;exact aD (v:=ax #[.agg #[ae d.1.1,ae d.1.2.1,af d.1.2.2,ag d.2.1.1 d.2.2.length d.2.1.2],.bool J]) (by simp[results,results239,go_sem,Q,R,S,T]) rfl (F _ _ _ _)
theorem PE(N:Nat)(o:Option (Tm (N+1)))(a:ay)(c:Nat)(self:Int)(b po:Nat)(n:Nat)(L:n<=N)(x:Tm (n+1))(cl:Bool)(pc:Nat)(w:ah)(l:Hid (∀w1,ap w w1->au 245 #[ag (some ⟨b,po,none⟩) 2 pc,af qF,ae 0] w1 λe w'=>e=aw (.bool false)/\w'=w1))(C:Hid (∀w1,ap w w1->au 245 #[ag (some ⟨b,po,none⟩) 2 pc,af A7,ae 2] w1 λe w'=>e=aw (.bool false)/\w'=w1))(D:Hid (∀w1,ap w w1->au 245 #[ag (some ⟨b,po,none⟩) 2 pc,af DD,ae 1] w1 λe w'=>e=aw (.bool true)/\w'=w1))(f:b<w.heap.size)(M:eg w b (po+4) (n+1) x)(H:Hid (aL ⟨n+1,x⟩))(G:Hid (∀w1,ap w w1->au 91 #[.agg #[ae x.1.1,ae x.1.2.1,af x.1.2.2,ag x.2.1.1 x.2.2.length x.2.1.2]] w1 λe w'=>∃y:Tm (n+1),e=aw (dF (n+1) y)/\Hid (ap w1 w'/\In w'.heap.size w' (n+1) y/\cF (λq=>w1.heap.size<=q) (n+1) y/\aJ (n+1) y (n+1) x=true)))(E:Hid (∀w1,ap w w1->au 132 #[.agg #[ae x.1.1,ae x.1.2.1,af x.1.2.2,ag x.2.1.1 x.2.2.length x.2.1.2]] w1 λe w'=>e=aw (.bool cl)/\ap w1 w'))(F:Hid (o=if cl then some (bj (N+1) (n+1) x)else none)):au 239 #[.agg #[ag a 4 c,ae self],ag (some ⟨b,po,none⟩) 2 pc] w (kN (N+1) o w):=by
 go_enter func239,ntmps239;go_wp2_with fail;refine(l _ A4.1).mono ?_;rintro e w1 ⟨rfl,p⟩;obtain⟨m,i,ai,aj⟩:=A5 p;have HB:=av m;have k:=av i;have ab:w.heap.size<w1.heap.size:=by have:=i.2.2;omega
 clear p m i l;have d:=aB HB;obtain⟨t,u,z,A⟩:=M;replace t:=(d _ _ f).trans t;replace u:=(d _ _ f).trans u;replace z:=(d _ _ f).trans z;replace A:=(d _ _ f).trans A;clear d;generalize x.2.2.length=S at*;go_wp2_with fail;refine(C _ HB).mono ?_;rintro e r ⟨rfl,rfl⟩;go_wp2_with fail;refine(D _ HB).mono ?_;rintro e r ⟨rfl,rfl⟩;have Z:b<r.heap.size:=bf f HB.size;have X:¬(w.heap.size+1=b):=by omega
 have Y:¬(b=w.heap.size+1):=by omega
 have J:∀y:Tm (n+1),dF (n+1) y=.agg #[ae y.1.1,ae y.1.2.1,af y.1.2.2,ag y.2.1.1 y.2.2.length y.2.1.2]:=λ_=>rfl;go_wp2_with fail
 go_region_held3 (λw'=>w'.cell? ⟨b,po+4,none⟩=some (ae x.1.1)/\w'.cell? ⟨b,po+4+1,none⟩=some (ae x.1.2.1)/\w'.cell? ⟨b,po+4+2,none⟩=some (af x.1.2.2)/\w'.cell? ⟨b,po+4+3,none⟩=some (ag x.2.1.1 S x.2.1.2))
  (go_keep) ((first|(go_at_call 91;refine(G _ HB.drew).mono ?_;rintro e s ⟨y,rfl,g⟩;rw[J];have d:=aB (dd g.1);have j:Hid (ap w s):=(HB.drew).trans (g.1.mono HB.size))|(go_at_call 132;refine(E _ j).mono ?_;rintro e ak ⟨rfl,h⟩;have K:=aB h;have aa:b<s.heap.size:=bf f j.size;have B:=av ((k.below (dd g.1)).below h);obtain⟨⟨T,U,V,W⟩,⟨f0,f1,f2,f3⟩,ad⟩:=B)))
 have I:=λO P Q R=>av (xq L H HB.drew (ku _ 1) k.2.2 g h cl O P Q R);clear g d K h;go_wp2_with fail;rw[F.out];exact aD (v:=ax #[.agg #[ae y.1.1,ae y.1.2.1,af y.1.2.2,ag y.2.1.1 y.2.2.length y.2.1.2],.bool cl]) (by simp[results,results239,go_sem,T,U,V,W]) rfl (I _ _ _ _)
theorem Oa(N:Nat)(o:Option (Tm (N+1)))(a:ay)(c:Nat)(self:Int)(pa:ay)(len:Nat)(pc:Nat)(w:ah)(h:Hid (∀w1,ap w w1->au 245 #[ag pa len pc,af qF,ae 0] w1 λe w'=>e=aw (.bool false)/\w'=w1))(i:Hid (∀w1,ap w w1->au 245 #[ag pa len pc,af A7,ae 2] w1 λe w'=>e=aw (.bool false)/\w'=w1))(j:Hid (∀w1,ap w w1->au 245 #[ag pa len pc,af DD,ae 1] w1 λe w'=>e=aw (.bool false)/\w'=w1))(k:Hid (∀w1,ap w w1->au 247 #[.agg #[ag a 4 c,ae self],ag pa len pc] w1 (kN (N+1) o w1))):au 239 #[.agg #[ag a 4 c,ae self],ag pa len pc] w (kN (N+1) o w):=by
 go_enter func239,ntmps239;go_wp2_with fail;refine(h _ A4.1).mono ?_;rintro e w1 ⟨rfl,n⟩;obtain⟨m,f,F,G⟩:=A5 n;have HB:=av m;have g:=av f;have D:w.heap.size<w1.heap.size:=by have:=f.2.2;omega
 clear n m f h;go_wp2_with fail;refine(i _ HB).mono ?_;rintro e y ⟨rfl,rfl⟩;go_wp2_with fail;refine(j _ HB).mono ?_;rintro e y ⟨rfl,rfl⟩;go_wp2_with fail;refine(k _ HB).mono ?_;rintro e H ⟨b,r,rfl,d⟩;have p:=av (g.below d.1);have q:=λs t u x=>av (xp HB (ku _ 1) g.2.2 d s t u x);obtain⟨⟨z,A,B,C⟩,⟨f0,f1,f2,f3⟩,E⟩:=p;have l:dF (N+1) b=.agg #[ae b.1.1,ae b.1.2.1,af b.1.2.2,ag b.2.1.1 b.2.2.length b.2.1.2]:=rfl;rw[l];clear d k i j l;go_wp2_with fail;exact aD (v:=ax #[.agg #[ae b.1.1,ae b.1.2.1,af b.1.2.2,ag b.2.1.1 b.2.2.length b.2.1.2],.bool r]) (by simp[results,results239,go_sem,z,A,B,C]) rfl (q _ _ _ _)
theorem iH(w:ah)(s0 s1 a b c d:az)(t1 t2 t3:TypeId):ap w (((w.alloc (.cells #[s0,s1] t1)).alloc (.cells #[a,b,c,d] t2)).alloc (.cells #[ae 0,ae 0,af .empty,ag none 0 0] t3))/\ oN (w.heap.size+1+1) (((w.alloc (.cells #[s0,s1] t1)).alloc (.cells #[a,b,c,d] t2)).alloc (.cells #[ae 0,ae 0,af .empty,ag none 0 0] t3)):=by
 refine⟨(((aG _ _).alloc (aA _) _).alloc (by simp) _).alloc (by simp;omega) _,⟨?_,?_,?_,?_⟩,⟨?_,?_,?_,?_⟩,?_⟩<;>simp[go_sem]
theorem Nc{W:ah}(a:(((w.alloc (.cells #[s0,s1] t1)).alloc (.cells #[f,i,j,l] t2)).alloc (.cells #[ae 0,ae 0,af .empty,ag none 0 0] t3)).alloc (.cells #[y0,y1,y2,u] t4)=W):ap w W/\oN (w.heap.size+1+1) W/\ (W.cell? ⟨w.heap.size+1+1+1,0,none⟩=some y0/\W.cell? ⟨w.heap.size+1+1+1,1,none⟩=some y1/\W.cell? ⟨w.heap.size+1+1+1,2,none⟩=some y2/\W.cell? ⟨w.heap.size+1+1+1,3,none⟩=some u)/\w.heap.size+1+1+1<W.heap.size:=by
 subst a;refine⟨nZ _ _ _ _ _,⟨⟨?_,?_,?_,?_⟩,⟨?_,?_,?_,?_⟩,?_⟩,⟨?_,?_,?_,?_⟩,?_⟩<;>simp[go_sem]
theorem Qg(N:Nat)(o:Option (Tm (N+1)))(a:ay)(d:Int)(e:aq)(xa:ay)(f xc:Nat)(c:Nat)(self:Int)(w:ah)(b:Hid (o=none)):au 231 #[.agg #[ag a 4 c,ae self],.agg #[ae 6,ae d,af e,ag xa f xc]] w (kN (N+1) o w):=by
 go_enter func231,ntmps231;go_wp2_with fail;rw[b.out];exact aD (v:=ax #[.agg #[ae 0,ae 0,af .empty,ag none 0 0],.bool false]) (by simp[results,results231,go_sem];rfl) rfl (ls (iH w _ _ _ _ _ _ _ _ _).1)
theorem Qh(N:Nat)(o:Option (Tm (N+1)))(a:ay)(p:Int)(q:aq)(xa:ay)(g xc:Nat)(c:Nat)(self:Int)(w:ah)(e:Hid (∀w1,ap w w1->au 239 #[.agg #[ag a 4 c,ae self],ag xa g xc] w1 (kN (N+1) o w1))):au 231 #[.agg #[ag a 4 c,ae self],.agg #[ae 4,ae p,af q,ag xa g xc]] w (kN (N+1) o w):=by
 go_enter func231,ntmps231;go_wp2_with fail;refine(e _ (iH w _ _ _ _ _ _ _ _ _).1).mono ?_;rintro x z ⟨b,j,rfl,d⟩;have h:=av ((iH w _ _ _ _ _ _ _ _ _).2.below d.1);have i:=λk l m n=>av (xp (iH w _ _ _ _ _ _ _ _ _).1 (ku w.heap.size 2) (iH w _ _ _ _ _ _ _ _ _).2.2.2 d k l m n);obtain⟨⟨r,s,t,u⟩,⟨f0,f1,f2,f3⟩,y⟩:=h;have f:dF (N+1) b=.agg #[ae b.1.1,ae b.1.2.1,af b.1.2.2,ag b.2.1.1 b.2.2.length b.2.1.2]:=rfl;rw[f];clear d e f;go_wp2_with fail;exact aD (v:=ax #[.agg #[ae b.1.1,ae b.1.2.1,af b.1.2.2,ag b.2.1.1 b.2.2.length b.2.1.2],.bool j]) (by simp[results,results231,go_sem,r,s,t,u]) rfl (i _ _ _ _)
theorem Pz(N:Nat)(o:Option (Tm (N+1)))(a:ay)(b:Int)(h:Int)(i:aq)(xa:ay)(j xc:Nat)(n:Nat)(r:n<=N)(x:Tm (n+1))(c:Nat)(self:Int)(w:ah)(E:¬b=4)(F:¬b=5)(G:¬b=6)(m:Hid (aL ⟨n+1,x⟩))(f:Hid (∀w1,ap w w1->au 91 #[.agg #[ae b,ae h,af i,ag xa j xc]] w1 λe w'=>∃y:Tm (n+1),e=aw (dF (n+1) y)/\Hid (ap w1 w'/\In w'.heap.size w' (n+1) y/\cF (λq=>w1.heap.size<=q) (n+1) y/\aJ (n+1) y (n+1) x=true)))(l:Hid (o=some (bj (N+1) (n+1) x))):au 231 #[.agg #[ag a 4 c,ae self],.agg #[ae b,ae h,af i,ag xa j xc]] w (kN (N+1) o w):=by
 go_enter func231,ntmps231;go_wp2_with fail;refine(f _ (iH w _ _ _ _ _ _ _ _ _).1).mono ?_;rintro e I ⟨y,rfl,d⟩;have k:=av ((iH w _ _ _ _ _ _ _ _ _).2.below d.1);have p:=λs t u z=>av (xq r m (iH w _ _ _ _ _ _ _ _ _).1 (ku w.heap.size 2) (iH w _ _ _ _ _ _ _ _ _).2.2.2 d (aG _ _) true s t u z);obtain⟨⟨A,B,C,D⟩,⟨f0,f1,f2,f3⟩,H⟩:=k;have g:dF (n+1) y=.agg #[ae y.1.1,ae y.1.2.1,af y.1.2.2,ag y.2.1.1 y.2.2.length y.2.1.2]:=rfl;rw[g];clear d f g;go_wp2_with fail;rw[l.out];exact aD (v:=ax #[.agg #[ae y.1.1,ae y.1.2.1,af y.1.2.2,ag y.2.1.1 y.2.2.length y.2.1.2],.bool true]) (by simp[results,results231,go_sem,A,B,C,D]) rfl (p _ _ _ _)
theorem Qi(N:Nat)(o:Option (Tm (N+1)))(b bo:Nat)(k:Nat)(l:Int)(M:aq)(xa:ay)(Q xc:Nat)(n:Nat)(E:n<=N)(x:Tm (n+1))(c:Nat)(self:Int)(w:ah)(A:l=(k:Int))(ak:k<4)(aj:b<w.heap.size)(F:eg w b (bo+k*4) (n+1) x)(t:Hid (aL ⟨n+1,x⟩))(s:Hid (∀w1,ap w w1->au 91 #[.agg #[ae x.1.1,ae x.1.2.1,af x.1.2.2,ag x.2.1.1 x.2.2.length x.2.1.2]] w1 λe w'=>∃y:Tm (n+1),e=aw (dF (n+1) y)/\Hid (ap w1 w'/\In w'.heap.size w' (n+1) y/\cF (λq=>w1.heap.size<=q) (n+1) y/\aJ (n+1) y (n+1) x=true)))(p:Hid (∀w1,au 234 #[.agg #[ae x.1.1,ae x.1.2.1,af x.1.2.2,ag x.2.1.1 x.2.2.length x.2.1.2]] w1 λe w'=>e=aw (.bool (!(x.1.1==6)))/\ap w1 w'))(r:Hid (o=if (!(x.1.1==6))=true then some (bj (N+1) (n+1) x)else none)):au 231 #[.agg #[ag (some ⟨b,bo,none⟩) 4 c,ae self],.agg #[ae 5,ae l,af M,ag xa Q xc]] w (kN (N+1) o w):=by
 go_enter func231,ntmps231;obtain⟨K,L,O,P⟩:=F;subst A;generalize x.2.2.length=R at*;generalize (!(x.1.1==6))=cl at*;have al:(0:Int)<=(k:Int):=by omega
 have am:(k:Int)<4:=by omega
 have ad:b<w.heap.size+1:=by omega
 have ai:b<w.heap.size+1+1:=by omega
 go_wp2_with fail;generalize i:World.alloc (World.alloc (World.alloc (World.alloc w _) _) _) _=X;obtain⟨g,h,⟨Y,Z,aa,ab⟩,B⟩:=Nc i;have HB:=av g;have f:=av h;clear i g h K L O P;have z:∀y:Tm (n+1),dF (n+1) y=.agg #[ae y.1.1,ae y.1.2.1,af y.1.2.2,ag y.2.1.1 y.2.2.length y.2.1.2]:=λ_=>rfl
 go_region_held3 (λw'=>w'.cell? ⟨w.heap.size+1+1+1,0,none⟩=some (ae x.1.1)/\w'.cell? ⟨w.heap.size+1+1+1,1,none⟩=some (ae x.1.2.1)/\w'.cell? ⟨w.heap.size+1+1+1,2,none⟩=some (af x.1.2.2)/\w'.cell? ⟨w.heap.size+1+1+1,3,none⟩=some (ag x.2.1.1 R x.2.1.2))
  (go_keep) ((first|(go_at_call 91;refine(s _ HB.drew).mono ?_;rintro e j ⟨y,rfl,a⟩;rw[z];have C:=aB (dd a.1);have W:Hid (ap w j):=(HB.drew).trans (a.1.mono HB.size);have an:w.heap.size+1+1+1<j.heap.size:=bf B a.1.size)|(go_at_call 234;refine(p _).mono ?_;rintro e ar ⟨rfl,d⟩;have D:=aB d;have m:=av ((f.below (dd a.1)).below d);obtain⟨⟨S,T,U,V⟩,⟨f0,f1,f2,f3⟩,ao⟩:=m)))
 have u:=λG H I J=>av (xq E t HB.drew (ku w.heap.size 2) f.2.2 a d cl G H I J);clear a C D d;go_wp2_with fail;rw[r.out];exact aD (v:=ax #[.agg #[ae y.1.1,ae y.1.2.1,af y.1.2.2,ag y.2.1.1 y.2.2.length y.2.1.2],.bool cl]) (by simp[results,results231,go_sem,S,T,U,V]) rfl (u _ _ _ _)
def xQ(m n:Nat)(self:Int)(f:Tm n->Option (Tm (m+n)))(p:List (Tm n)):Option (Tm (m+n+1)):=
 if uY n p qF 0 then some (cw 3 self (m+n))
 else if uY n p A7 2 then (p[1]?).bind λa=>(p[2]?).bind λc=>(f a).bind λa=>(f c).bind λc=>uQ (m+n) a c
 else if uY n p DD 1 then (p[1]?).bind λa=>if aX n a then some (bj (m+n+1) n a)else none
 else (cZ f p).map (dS (m+n))
theorem Mt(m:Nat)(b:List (Tm m))(self:Int)(n:Nat)(x:Tm (n+1))(a:x.1.1=4):vl m b self (n+1) x=xQ m n self (λy=>vl m b self n y) x.2.2:=by simp[vl,a,xQ]
theorem Ms(m:Nat)(b:List (Tm m))(self:Int)(n:Nat)(x:Tm (n+1))(a:x.1.1=6):vl m b self (n+1) x=none:=by simp[vl,a]
theorem GR(m:Nat)(b:List (Tm m))(self:Int)(n:Nat)(x:Tm (n+1))(a:x.1.1≠4)(c:x.1.1≠5)(d:x.1.1≠6):vl m b self (n+1) x=some (bj (m+n+1) (n+1) x):=by simp[vl,a,c,d]
theorem PC(m:Nat)(b:List (Tm m))(self:Int)(n:Nat)(x:Tm (n+1))(y:Tm m)(k:Nat)(a:x.1.1=5)(c:x.1.2.1=(k:Int))(d:b[k]?=some y):vl m b self (n+1) x=if ci ⟨m,y⟩=6 then none else some (bj (m+n+1) m y):=by
 simp[vl,a,c,d]
theorem Cr{p:List (Tm n)}(a:uY n p s k=true):p.length=1+k:=by
 by_cases b:p.length=1+k
 ·exact b
 ·rw[Gt b]at a;cases a
theorem Lh{o:Option (Tm N)}(d:∀a,o=some a->aL ⟨N,a⟩):PR o:=by
 intro a g e;have c:=d a g;cases N with
 | zero=>exact(dG c).elim
 | succ N=>
  have b:=c (bQ N a) (by simp[aH,bQ]);have f:a.1.1=1:=e;simp only[cM,bQ,f,qX,aS,cC]at b;exact⟨iw b.1.2.1,iw b.1.2.2⟩
theorem FN(m:Nat)(b:List (Tm m))(self:Int)(O:gG m b=true)(N:1<=self/\self<=99)(n:Nat)(ih:OJ m b self n)(p:List (Tm n))(pa:ay)(pc:Nat)(a:ay)(c B:Nat)(w:ah)(L:p.length<=8)(g:fU B w n p pa)(v:∀y∈p,aL ⟨n,y⟩)(C:fU B w m b a)(f:B<=w.heap.size):au 239 #[.agg #[ag a 4 c,ae self],ag pa p.length pc] w (kN (m+n+1) (xQ m n self (λy=>vl m b self n y) p) w):=by
 have D:=λW k (Q:k<=8) h (e:ap w h)=>EG n p pa pc B W k h (g.below (e.mono f)) L Q;have j:=D qF 0 (by omega);have o:=D A7 2 (by omega);have r:=D DD 1 (by omega);have K:∀y∈b,aL ⟨m,y⟩:=λy i=>((iB O).2 y i).2.1;cases e1:uY n p qF 0
 ·rw[e1]at j;cases e2:uY n p A7 2
  ·rw[e2]at o;cases e3:uY n p DD 1
   ·rw[e3]at r;refine Oa (m+n) _ a c self pa p.length pc w j o r ?_;intro h e;have P:=Dx m b self n ih p p.length rfl pa pc a c B h L (g.below (e.mono f)) v (C.below (e.mono f)) (aF f e.size);simpa [xQ,e1,e2,e3]using P
   ·rw[e3]at r;have s:=Cr e3;rcases g with g|⟨G,po,rfl,R,g⟩
    ·rw[g]at s;simp at s
    ·obtain⟨y,i⟩:∃y,p[1]?=some y:=⟨p[1]'(by omega),aU _⟩;obtain⟨u,x⟩:=g 1 y i;have t:=v y (aT i);have z:xQ m n self (λy=>vl m b self n y) p=if aX n y=true then some (bj (m+n+1) n y)else none:=by simp[xQ,e1,e2,e3,i]
     rw[z];cases n with
     | zero=>exact u.elim
     | succ n=>
     rw[show p.length=2 by omega]at j o r ⊢;refine PE (m+(n+1)) _ a c self G po n (by omega) y (aX (n+1) y) pc w j o r (by omega) (by simpa using u) t ?_ ?_ rfl
     ·intro h e;exact iC (n+1) y B h (x.below (e.mono f)) (aF f e.size) t
     ·intro h e;exact ja (n+1) y B h (x.below (e.mono f)) (aF f e.size)
  ·rw[e2]at o;have s:=Cr e2;rcases g with g|⟨G,po,rfl,R,g⟩
   ·rw[g]at s;simp at s
   ·obtain⟨d,E⟩:∃d,p[1]?=some d:=⟨p[1]'(by omega),aU _⟩;obtain⟨y,i⟩:∃y,p[2]?=some y:=⟨p[2]'(by omega),aU _⟩;obtain⟨S,T⟩:=g 1 d E;obtain⟨u,x⟩:=g 2 y i;have M:=v d (aT E);have t:=v y (aT i);have z:xQ m n self (λy=>vl m b self n y) p=xN (vl m b self n d) (vl m b self n y):=by simp[xQ,e1,e2,E,i,xN]
    rw[z];have U:=Lh λJ F=>xo m b self N K n d M J F;have V:=Lh λJ F=>xo m b self N K n y t J F;cases n with
    | zero=>exact u.elim
    | succ n=>
    rw[show p.length=3 by omega]at j o ⊢;refine PD (m+(n+1)) _ a c self G po d.1.1 d.1.2.1 d.1.2.2 d.2.1.1 d.2.2.length d.2.1.2 y.1.1 y.1.2.1 y.1.2.2 y.2.1.1 y.2.2.length y.2.1.2 pc w j o (by omega) (by simpa [eg]using S) (by simpa [eg]using u) ?_;intro h e;refine Ma (m+(n+1)) _ _ U V a c self d.1.1 d.1.2.1 d.1.2.2 d.2.1.1 d.2.2.length d.2.1.2 y.1.1 y.1.2.1 y.1.2.2 y.2.1.1 y.2.2.length y.2.1.2 h ?_ ?_
    ·intro H q;refine uu (m+n) _ a c self d.1.1 d.1.2.1 d.1.2.2 d.2.1.1 d.2.2.length d.2.1.2 H ?_;intro I A;have l:=(e.trans ((q.trans (A.mono q.size)).mono e.size));exact ih d a c B I (T.below (l.mono f)) M (C.below (l.mono f)) (aF f l.size)
    ·intro H q;refine uu (m+n) _ a c self y.1.1 y.1.2.1 y.1.2.2 y.2.1.1 y.2.2.length y.2.1.2 H ?_;intro I A;have l:=(e.trans ((q.trans (A.mono q.size)).mono e.size));exact ih y a c B I (x.below (l.mono f)) t (C.below (l.mono f)) (aF f l.size)
 ·rw[e1]at j;exact Ob (m+n) _ a c self ⟨by omega,by omega⟩ pa p.length pc w j (by simp[Hid,xQ,e1])
theorem JJ(m:Nat)(b:List (Tm m))(self:Int)(z:gG m b=true)(J:1<=self/\self<=99)(n:Nat):OJ m b self n:=by
 induction n with
 | zero=>intro a j c q p v;exact v.elim
 | succ n ih=>
  intro a j c q p v u h g;obtain⟨y,H⟩:=iB z;have t:=u (bQ n a) (by simp[aH,bQ]);have I:a.2.2.length<=8:=nb (bQ n a) t;by_cases s:a.1.1=6
  ·have f:=Qg (m+n) (vl m b self (n+1) a) j a.1.2.1 a.1.2.2 a.2.1.1 a.2.2.length a.2.1.2 c self p (Ms m b self n a s);rw[<-s]at f;exact f
  ·by_cases l:a.1.1=5
   ·have O:0<=a.1.2.1/\a.1.2.1<=3:=by
      have D:¬(5:Int)=1:=by decide
      have E:¬(5:Int)=2:=by decide
      have F:¬(5:Int)=3:=by decide
      have G:¬(5:Int)=4:=by decide
      simp only[cM,bQ,l,qX,aS,cC,D,E,F,G,if_false]at t;exact⟨iw t.1.2.1,iw t.1.2.2⟩
    obtain⟨k,A⟩:∃k:Nat,a.1.2.1=(k:Int):=⟨a.1.2.1.toNat,by omega⟩;obtain⟨d,o⟩:∃d,b[k]?=some d:=⟨b[k]'(by omega),aU _⟩;have w:=(H d (aT o)).2.1;have C:=PC m b self n a d k l A o;have M:=h;rcases h with h|⟨B,bo,rfl,N,h⟩
    ·rw[h]at y;simp at y
    ·obtain⟨K,L⟩:=h k d o;cases m with
     | zero=>exact(dG w).elim
     | succ m=>
     have f:=Qi (m+1+n) (vl (m+1) b self (n+1) a) B bo k a.1.2.1 a.1.2.2 a.2.1.1 a.2.2.length a.2.1.2 m (by omega) d c self p A (by omega) (by omega) K w
      (λi e=>iC (m+1) d q i (L.below (e.mono g)) (aF g e.size) w)
      (λi=>jS d.1.1 d.1.2.1 d.1.2.2 d.2.1.1 d.2.2.length d.2.1.2 i)
      (by
       show vl (m+1) b self (n+1) a=_;rw[C];by_cases x:d.1.1=6
       ·simp[ci,x]
       ·simp[ci,x])
     rw[<-l]at f;exact f
   ·by_cases r:a.1.1=4
    ·have f:=Qh (m+n) (vl m b self (n+1) a) j a.1.2.1 a.1.2.2 a.2.1.1 a.2.2.length a.2.1.2 c self p (by
       intro i e;rw[Mt m b self n a r]
       exact FN m b self z J n ih a.2.2 a.2.1.1 a.2.1.2 j c q i I (fU.below (e.mono g) v.2) (λd o=>bt n a d u o) (h.below (e.mono g)) (aF g e.size))
     rw[<-r]at f;exact f
    ·exact Pz (m+n) (vl m b self (n+1) a) j a.1.1 a.1.2.1 a.1.2.2 a.2.1.1 a.2.2.length a.2.1.2 n (by omega) a c self p r l s u
       (λi e=>iC (n+1) a q i (v.below (e.mono g)) (aF g e.size) u) (GR m b self n a r l s)
end Go.Proofs.YthjclakhibnamaaGreatDoor
