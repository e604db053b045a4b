/- Proved here: plain facts and contracts. No condition but what each names. -/
import Derived.Test.YthjclakhibnamaaGreatDoorD02
import Derived.Test.YthjclakhibnamaaGreatDoorD03
import Derived.Lib.AtoiAllCases
import Derived.Lib.ItoaLen
import Derived.Test.YthjclakhibnamaaGreatDoorCards
import Derived.Lib.LaidTab
import Derived.Stop.LaidErr
import Derived.Shelf.Vars
import Derived.Deep.AppendLies
import Derived.Deep.Light
import Derived.Handy
import Derived.Deep.RegionHeld3
import Derived.Deep.DrawnRows
import Derived.Laws.MakeOwn
namespace Go.Proofs.YthjclakhibnamaaGreatDoor
open Go.RowKit Go.Proofs.Tryz
set_option maxRecDepth 100000
set_option maxHeartbeats 1000000
def iJ:aq:=⟨#[99,111,100,101]⟩
def jK:aq:=⟨#[115,116,97,114,116]⟩
def sQ:aq:=⟨#[114,117,110]⟩
def sP:aq:=⟨#[100,101,108,105,118,101,114]⟩
def qH:aq:=⟨#[105,110,106,101,99,116]⟩
def oz:aq:=⟨#[115,104,111,119]⟩
def gB:aq:=⟨#[97,108,105,118,101]⟩
def iU(e:Int):List UInt8:=[101,114,114,111,114,32]++Lib.itoa e
def iE(wd:aq):Option (Nat×Nat):=
 if wd=gB then some (0,0)else if wd=jK then some (0,1)else if wd=sQ then some (1,0)else if wd=oz then some (1,0)
 else if wd=iJ then some (1,1)else if wd=qH then some (1,1)else if wd=sP then some (2,0)else none
def vO(s:aq):Option Int:=match Lib.atoiAll s.data.toList with
 | .ok v=>if (0<=v/\v<=99)/\Lib.itoa v=s.data.toList then some v else none
 | _=>none
def mj(a:aq):Bool:=match a.data.toList with
 | []=>false
 | c::_=>c !=35
theorem DX(a b:List UInt8):(⟨a.toArray⟩:aq)++ ⟨b.toArray⟩=⟨(a++b).toArray⟩:=by
 apply ByteArray.ext;simp
variable{a:Bool}{B L N base c e g k len m n o q size:Nat}{p r:Obj}{d h:Type}{t t1 t2 t3 t4:TypeId}{W w w' w1 w2 wr:ah}{s:aq}{f i j l u s0 s1 v v0 v1 v2 v3 y0 y1 y2:az}{xs:dI}
theorem kJ{l:List UInt8}(a:s.toList=l):s=⟨l.toArray⟩:=by
 rw[Lib.toList_data]at a;subst a;rfl
theorem Mn(c:UInt8)(k:UInt8):((c.toNat:Int) !=(k.toNat:Int))=(c !=k):=by
 by_cases d:c=k
 ·subst d;simp
 ·rw[(gV (a:=c) (b:=k)).2 d,gV];have:¬c.toNat=k.toNat:=λe=>d (UInt8.toNat_inj.1 e);omega
theorem Pj(s:aq)(w:ah):au 11 #[ag s] w λe w'=>e=aw (.bool (mj s))/\w'=w:=by
 rcases s with⟨⟨l⟩⟩;cases l with
 | nil=>
  go_enter func11,ntmps11;go_wp2_with fail
  go_ret
  exact⟨rfl,rfl⟩
 | cons c l=>
  have a:(⟨⟨c::l⟩⟩:aq).toList.isEmpty=false:=by rw[Lib.toList_data];rfl
  have d:0<(⟨⟨c::l⟩⟩:aq).size:=Nat.zero_lt_succ _;have f:¬(⟨⟨c::l⟩⟩:aq).toList=[]:=by rw[Lib.toList_data];simp
  have g:(⟨⟨c::l⟩⟩:aq)[0]=c:=rfl;go_enter func11,ntmps11;go_wp2_with fail
  go_ret
  exact⟨congrArg (λb=>Ending.returned (.bool b)) (Mn c 35),rfl⟩
def Qb(o:Option (Nat×Nat)):az:=match o with
 | some (a,b)=>ax #[ae a,ae b,.bool true]
 | none=>ax #[ae 0,ae 0,.bool false]
theorem Ch(s:aq)(w:ah):au 32 #[ag s] w λe w'=>e=aw (Qb (iE s))/\w'=w:=by
 by_cases j:s=gB\/s=jK\/s=sQ\/s=oz\/s=iJ\/s=qH\/s=sP
 ·rcases j with rfl|rfl|rfl|rfl|rfl|rfl|rfl
  all_goals
   simp only[gB,jK,sQ,oz,iJ,qH,sP];go_enter func32,ntmps32;go_wp2_with fail
   go_ret3
   exact⟨rfl,rfl⟩
 ·simp only[not_or]at j;obtain⟨b,c,d,f,g,h,i⟩:=j;have e:iE s=none:=by
   unfold iE;rw[if_neg b,if_neg c,if_neg d,if_neg f,if_neg g,if_neg h,if_neg i]
  rw[e];have k:(s.toList==[97,108,105,118,101])=false:=dM.2 λa=>b (kJ a);have l:(s.toList==[115,116,97,114,116])=false:=dM.2 λa=>c (kJ a);have m:(s.toList==[114,117,110])=false:=dM.2 λa=>d (kJ a);have n:(s.toList==[115,104,111,119])=false:=dM.2 λa=>f (kJ a);have o:(s.toList==[99,111,100,101])=false:=dM.2 λa=>g (kJ a);have p:(s.toList==[105,110,106,101,99,116])=false:=dM.2 λa=>h (kJ a);have q:(s.toList==[100,101,108,105,118,101,114])=false:=dM.2 λa=>i (kJ a);clear b c d f g h i;go_enter func32,ntmps32;go_wp2_with fail
  go_ret3
  exact⟨rfl,rfl⟩
def QB(v:az):Prop:=v=.nilIface\/∃t p,v=.iface t p
def Cx(B:Nat)(w:ah):Prop:=xA B w/\∃(m:Int)(a b:az),(QB a/\QB b)/\∀W,Below B w W->W.cell? ⟨0,0,none⟩=some (ae m)/\W.cell? ⟨4,0,none⟩=some a/\W.cell? ⟨5,0,none⟩=some b
theorem Cx.on{B:Nat}{w W:ah}(e:Cx B w)(a:Below B w W):Cx B W:=by
 obtain⟨f,j,c,d,g,h⟩:=e;exact⟨f.on a,j,c,d,g,λb i=>h b (a.trans i)⟩
theorem sg(e:Int)(a:dp e)(c:Cx B w):au 10 #[ae e] w λr w'=>r=aw (ag ⟨(iU e).toArray⟩)/\ap w w':=by
 have b:=av (jU e a.1 a.2 B w c.1);have g:=Lib.itoa_length_le e a.1 a.2;have h:¬9223372036854775807<6+(Lib.itoa e).length:=by omega
 go_enter func10,ntmps10;go_wp2_with fail;refine b.out.mono ?_;rintro r i ⟨rfl,d⟩;go_wp2_with fail
 go_ret
 exact⟨congrArg (λf=>Ending.returned (ag f)) (DX [101,114,114,111,114,32] _),d⟩
def Qp(o:Option Int):az:=match o with
 | some v=>ax #[ae v,.bool true]
 | none=>ax #[ae 0,.bool false]
theorem Kc(s:aq)(c:s.size<=281474976710656)(g:Cx B w):au 49 #[ag s] w λe w'=>(∃v,Lib.atoiAll s.data.toList=.ok v/\e=aw (ax #[ae v,.nilIface])/\ap w w')\/((∀v,Lib.atoiAll s.data.toList≠.ok v)/\∃(v:Int)(t:TypeId)(q:Nat),e=aw (ax #[ae v,.iface t (aF q)])/\ap w w'):=by
 obtain⟨_,m,d,f,⟨k,l⟩,j⟩:=g;obtain⟨_,h,i⟩:=j w (aH _ _);cases hr:Lib.atoiAll s.data.toList with
 | ok v=>
  refine(Tryz.strconv_Atoi_ok s (by omega) v hr w).mono ?_;rintro e w' ⟨rfl,a⟩;refine ak ⟨v,rfl,rfl,?_⟩;rcases a with rfl|⟨t,rfl⟩
  ·exact aH _ _
  ·exact Lib.bytesWorld_below _ _ _
 | «syntax»=>
  refine(Tryz.strconv_Atoi_syntax s c hr d w h k).mono ?_;rintro e w' ⟨q,rfl,_,_,a⟩;exact am ⟨(λv b=>by cases b),_,_,q,rfl,a⟩
 | range=>
  refine(Tryz.strconv_Atoi_range s c hr f w i l).mono ?_;rintro e w' ⟨q,rfl,_,_,a⟩;exact am ⟨(λv b=>by cases b),_,_,q,rfl,a⟩
theorem Pd(t:TypeId)(q:Nat)(w:ah):(binOp .neq 40 (.iface t (aF q)) .nilIface).run Tryz.prog w=.ok (.bool true) w:=by kernel_rfl
theorem KD(s:aq)(D:s.size<=281474976710656)(n:Cx B w)(A:B<=w.heap.size):au 34 #[ag s] w λe w'=>e=aw (Qp (vO s))/\ap w w':=by
 have j:=av (Kc s D n);have k:Hid (∀a,-9223372036854775808<=a->a<=9223372036854775807->∀i,ap w i->au 22 #[ae a] i λe w'=>e=aw (ag ⟨(Lib.itoa a).toArray⟩)/\ap i w'):=λa r u i C=>jU a r u B i (n.1.on (C.mono A));have l:=Pd;obtain⟨h,c⟩:∃h,vO s=h:=⟨_,rfl⟩;rw[c];clear n;go_enter func34,ntmps34;go_wp2_with fail;refine j.out.mono ?_;unfold vO at c;rintro e F (⟨a,g,rfl,f⟩|⟨g,a,t,E,rfl,f⟩)
 ·rw[g]at c;have HB:=av f;by_cases p:0<=a/\a<=99
  ·have r:¬a<0:=by omega
   have u:¬99<a:=by omega
   have m:=av (k.out a (by omega) (by omega) F f);obtain⟨d,o⟩:∃d:aq,⟨(Lib.itoa a).toArray⟩=d:=⟨_,rfl⟩;rw[o]at m;have x:Hid (h=if d=s then some a else none):=by
    have e:Lib.itoa a=s.data.toList ↔ d=s:=by
     rw[<-o];refine⟨λb=>by rw[b],λb=>by rw[<-b]⟩
    show h=_;rw[<-c];by_cases b:d=s
    ·rw[if_pos b];exact if_pos ⟨p,e.2 b⟩
    ·rw[if_neg b];exact if_neg λG=>b (e.1 G.2)
   clear f j k g c o p l;go_wp2_with fail;refine m.mono ?_;rintro e J ⟨rfl,y⟩;have v:=av (HB.trans (y.mono HB.size));clear y m HB;by_cases q:d=s
   ·subst q;obtain rfl:=x.out.trans (if_pos rfl);go_wp2_with fail
    go_ret2
    exact⟨rfl,v⟩
   ·obtain rfl:=x.out.trans (if_neg q);have H:(d.toList==s.toList)=false:=dM.2 λb=>q (by rw[kJ b,<-kJ (rfl:s.toList=s.toList)]);go_wp2_with fail
    go_ret2
    exact⟨rfl,v⟩
  ·obtain rfl:none=h:=(if_neg λb=>p b.1).symm.trans c;clear c k j l g f;by_cases r:a<0
   ·go_wp2_with fail
    go_ret2
    exact⟨rfl,HB⟩
   ·have u:99<a:=by omega
    go_wp2_with fail
    go_ret2
    exact⟨rfl,HB⟩
 ·obtain rfl:none=h:=by
    cases z:Lib.atoiAll s.data.toList with
    | ok a=>exact absurd z (g a)
    | _=>rw[z]at c;exact c
  have HB:=av f;have I:=l t E;clear c k j l g f;go_wp2_with fail
  go_ret2
  exact⟨rfl,HB⟩
theorem QR: Tryz.prog.globalNamed "internal/strconv.uint64pow10" = some 1 := by kernel_rfl
theorem KT:(Tryz.prog.globals[1]?).map (·.type)=some 159:=by kernel_rfl
theorem Kl:Tryz.prog.cellsOf 159=20:=by kernel_rfl
theorem Km:Tryz.prog.cellsOf 115=1:=by kernel_rfl
theorem M4:(Rows.laid_internal_strconv_uint64pow10:DataW Unit)=Lib.tabData .u64 Lib.pow10Tab:=by kernel_rfl
def Ao: String := "*errors.errorString"
theorem Dt: "*" ++ "errors.errorString" = Ao := by decide
theorem Pv(u:TypeId)(h:Tryz.prog.typeName? 3 u=some Ao):u=261:=
 typeName_ptr_named (nm := "errors.errorString") (by rw [Dt]; kernel_rfl) (by kernel_rfl) (by decide) u (by rw [Dt]; exact h)
theorem qA{n:String}{e:List UInt8}{r:List (String×DataW Unit)}(b:laidMet Tryz.prog ((n,.iface Ao (.ptr (.agg [.lit (.string e)])))::r) W)(a:Tryz.prog.globalNamed n=some g)(c:(Tryz.prog.globals[g]?).map (·.type)=some 40):∃v,ai W g 0 v/\QB v:=by
 obtain⟨f,h,d,_⟩:=laid_sentinel b a c underlying40 Pv underlying261 underlying263 rfl rfl underlying9 (by kernel_rfl) (by kernel_rfl);exact⟨_,World.var?_cell a d 0,am ⟨_,_,rfl⟩⟩
theorem Pw(m:laidMetH Tryz.prog Rows.deskHeadRow.laid W)(n:W.ShapedOpen Tryz.prog):Cx W.heap.size W:=by
 have j:laidMet Tryz.prog Rows.deskHeadRow.laid W:=m;have a:=laidMet.tail (laidMet.tail j);rw[M4]at a;have l:=Lib.tabIs_of_head QR KT underlying159 underlying115 Km Kl a;obtain⟨r,f⟩:=cell_of_shapedOpen_int (g:=0) (t:=3) (zero:= #[ae 0]) (k:=.i64) n (iy (by kernel_rfl)) (by kernel_rfl) (by kernel_rfl) (by kernel_rfl) (by kernel_rfl) underlying3;have e:=laidMet.tail (laidMet.tail a);obtain⟨h,c,o⟩:=qA (g:=4) (laidMet.tail e) (by kernel_rfl) (by kernel_rfl);obtain⟨i,d,q⟩:=qA (g:=5) e (by kernel_rfl) (by kernel_rfl);exact⟨Lib.tabBelow_of_tabIs l,r,h,i,⟨o,q⟩,λs b=>⟨(b.cell (p:=⟨0,0,none⟩) (lM _ _ f)).trans f,(b.cell (p:=⟨4,0,none⟩) (lM _ _ c)).trans c,(b.cell (p:=⟨5,0,none⟩) (lM _ _ d)).trans d⟩⟩
abbrev Nd:Type:=(Int×Int×aq)×(ay×Nat×Nat)
def wL(x:Nd):List az:=[ae x.1.1,ae x.1.2.1,ag x.1.2.2,af x.2.1 x.2.2.1 x.2.2.2]
def cO(l:List Nd):List az:=l.flatMap wL
def aI:(n:Nat)->Tm n->List Nd
 | 0,_=> [((0,0,.empty),(none,0,0))]
 | n+1,x=>(x.1,(x.2.1.1,x.2.2.length,x.2.1.2))::x.2.2.flatMap λy=>aI n y
def qy:(n:Nat)->Tm n->Int->List Int
 | 0,_,d=> [d]
 | n+1,x,d=>d::x.2.2.flatMap λy=>qy n y (d+1)
theorem Cd{c:Type}(f:d->List h)(g:d->List c)(b:∀a,(f a).length=(g a).length)(l:List d):(l.flatMap f).length=(l.flatMap g).length:=by
 induction l with
 | nil=>rfl
 | cons a l ih=>simp only[bM,br,ih,b]
theorem kS:(n:Nat)->(x:Tm n)->(d:Int)->(qy n x d).length=(aI n x).length
 | 0,_,_=>rfl
 | n+1,x,d=>by
  simp only[qy,aI,bv];rw[Cd (λy=>qy n y (d+1)) (λy=>aI n y) (λy=>kS n y (d+1))]
theorem pd(l:List Nd):(cO l).length=l.length*4:=by
 induction l with
 | nil=>rfl
 | cons a l ih=>simp only[cO,bM,br,bv]at ih ⊢;rw[ih];simp[wL];omega
theorem wM(l r:List Nd):cO (l++r)=cO l++cO r:=by simp[cO]
theorem uo(l:List Nd):∀b∈cO l,b.oneCell'=true:=by
 intro b a;simp only[cO,kt,wL]at a;obtain⟨c,_,a⟩:=a;simp at a;rcases a with rfl|rfl|rfl|rfl<;>rfl
theorem Jq(f:d->List h)(l:List d)(k:Nat)(x:d)(b:l[k]?=some x):(l.take (k+1)).flatMap f=(l.take k).flatMap f++f x:=by
 obtain⟨c,a⟩:=bj.1 b;rw[lG c,a];simp
theorem GP(f:d->List h)(l:List d)(k:Nat):((l.take k).flatMap f).length<=(l.flatMap f).length:=by
 conv=>rhs;rw[<-iN k l]
 rw[lD,br];omega
theorem NL(cs:Array az)(b:base<=w.heap.size)(a:cs.size=size):(w.alloc (.cells cs e)).ownsRow base e size (af (some ⟨w.heap.size,0,none⟩) 1 1) 1 cs.toList:=
 ⟨by simp[a],.inr ⟨w.heap.size,1,cs,rfl,b,aL w _,aA _,by unfold maxLen;omega,by omega,by rw[bI];simp[a]⟩⟩
theorem dV(b:w.ownsRow base e size v n xs)(a:ap w w'):w'.ownsRow base e size v n xs:=
 b.kept (row:=none) ⟨a.os,a.tape,a.output,a.size,λk c _=>a.block k c⟩ (by cases v.ownBlock<;>simp)
theorem sF{b:Nat}(f:w.ownsRow base e size v n xs)(k:b<=base):w.ownsRow b e size v n xs:=by
 obtain⟨g,a⟩:=f;refine⟨g,?_⟩;rcases a with a|⟨d,cap,c,i,l,h,j⟩
 ·exact ak a
 ·exact am ⟨d,cap,c,i,by omega,h,j⟩
theorem gN:(Tryz.prog.info? 54).map (λi=>(i.zero,i.size,i.bytes))=some (some (aB 0 0 .empty none 0 0),4,56):=by kernel_rfl
theorem Gs:(Tryz.prog.info? 3).map (λi=>(i.zero,i.size,i.bytes))=some (some (ae 0),1,8):=by kernel_rfl
def qX(n lo a:Int):Bool:=decide (lo<=n) && decide (n<=a)
def Ax(c:UInt8):Bool:=decide (97<=(c.toNat:Int)) && decide ((c.toNat:Int)<=122)
def gE(l:List UInt8):Bool:=l.all Ax
def ek(s:aq):Bool:=qX s.size 1 8 && gE s.data.toList
theorem b8{b:Bool}(c:a=b):Ending.returned (.bool a)=aw (.bool b):=by rw[c]
theorem tN(s:aq)(k:Nat)(a:k<s.size):s.data.toList.take (k+1)=s.data.toList.take k++ [s[k]]:=by
 rw[lG (by simpa using a)];rfl
theorem wF(s:aq)(k:Nat)(a:k<s.size):gE (s.data.toList.take (k+1))=(gE (s.data.toList.take k) && Ax s[k]):=by
 rw[tN s k a];simp[gE]
def sz:(n:Nat)->Tm n->Int
 | 0,_=>0
 | n+1,x=>if x.1.1=4 then 1+(x.2.2.map λy=>1+sz n y).sum else 0
theorem fJ:(n:Nat)->(x:Tm n)->0<=sz n x/\sz n x+1<=2*((aI n x).length:Int)
 | 0,_=>⟨by simp[sz],by simp[sz,aI]⟩
 | n+1,x=>by
  have key:∀l:List (Tm n),0<=(l.map λy=>1+sz n y).sum/\(l.map λy=>1+sz n y).sum<=2*((l.flatMap λy=>aI n y).length:Int):=by
   intro l
   induction l with
   | nil=>exact⟨by simp,by simp⟩
   | cons y l ih=>
    have b:=fJ n y;simp only[bB,dk,bM,br];exact⟨by omega,by omega⟩
  have k:=key x.2.2;simp only[sz,aI,bv];by_cases a:x.1.1=4
  ·rw[if_pos a];exact⟨by omega,by omega⟩
  ·rw[if_neg a];exact⟨by omega,by omega⟩
def cN(x:Nd):Bool:=
 (if x.1.1=1 then x.1.2.2.toList.isEmpty && qX x.1.2.1 (-1099511627776) 1099511627776
  else if x.1.1=2 then ek x.1.2.2 && x.1.2.1==0
  else if x.1.1=3 then x.1.2.2.toList.isEmpty && qX x.1.2.1 1 99
  else if x.1.1=4 then x.1.2.2.toList.isEmpty && x.1.2.1==0 && decide ((x.2.2.1:Int)<=8)
  else if x.1.1=5 then x.1.2.2.toList.isEmpty && qX x.1.2.1 0 3
  else if x.1.1=6 then x.1.2.2.toList.isEmpty && x.1.2.1==0
  else false) && (x.1.1==4 || !decide ((0:Int)<(x.2.2.1:Int)))
def mI(x:Nd)(d m:Int):Int:=if x.1.1=4/\m<d+1 then d+1 else m
def uE(a:Int):List Nd->List Int->Int->Int
 | x::l,d::ds,m=>if cN x then uE a l ds (mI x d m)else 5
 | _,_,m=>if 12<m\/200<a then 2 else 0
def bL(n:Nat)(x:Tm n):Int:=uE (sz n x) (aI n x) (qy n x 0) 0
theorem jk(l:List Nd)(k:Nat)(x:Nd)(b:l[k]?=some x)(j:Nat)(e:j<4):(cO l)[k*4+j]?=(wL x)[j]? :=by
 induction l generalizing k with
 | nil=>simp at b
 | cons a l ih=>
  have c:cO (a::l)=wL a++cO l:=rfl;have d:(wL a).length=4:=rfl;rw[c];cases k with
  | zero=>
   have:a=x:=by simpa using b
   subst this;rw[dO (by omega)];simp
  | succ k=>
   rw[ft (by omega),d,<-ih k (by simpa using b)];congr 1;omega
theorem fF(g j:Nat):(⟨g,0,none⟩:Addr).add j=⟨g,j,none⟩:=by unfold Addr.add;split<;>simp_all
theorem E6{l:List Nd}(d:w.ownsRow base 54 4 (af (some ⟨g,0,none⟩) L c) L (cO l))(k:Nat)(x:Nd)(b:l[k]?=some x):ai w g (k*4) (ae x.1.1)/\ai w g (k*4+1) (ae x.1.2.1)/\ai w g (k*4+2) (ag x.1.2.2)/\ai w g (k*4+3) (af x.2.1 x.2.2.1 x.2.2.2):=by
 have a:=d.cells (g:=g) rfl;refine⟨?_,?_,?_,?_⟩
 ·have:=a (k*4+0) (ae x.1.1) (by rw[jk l k x b 0 (by omega)];rfl);rw[fF]at this;exact this
 ·have:=a (k*4+1) (ae x.1.2.1) (by rw[jk l k x b 1 (by omega)];rfl);rw[fF]at this;exact this
 ·have:=a (k*4+2) (ag x.1.2.2) (by rw[jk l k x b 2 (by omega)];rfl);rw[fF]at this;exact this
 ·have:=a (k*4+3) (af x.2.1 x.2.2.1 x.2.2.2) (by rw[jk l k x b 3 (by omega)];rfl);rw[fF]at this;exact this
theorem Hl(x:Nd){d m:Int}(a:¬(x.1.1=4/\m<d+1)):mI x d m=m:=if_neg a
theorem ye(e:Int):(l:List Nd)->(a:List Int)->(m:Int)->l.length=a.length->uE e l a m=0->∀y∈l,cN y=true
 | [],_,_,_,_=>by simp
 | x::l,[],_,h,_=>by simp at h
 | x::l,d::a,m,h,h0=>by
  simp only[uE]at h0;by_cases b:cN x=true
  ·rw[if_pos b]at h0;intro y c;rcases cr.1 c with rfl|c
   ·exact b
   ·exact ye e l a _ (by simpa using h) h0 y c
  ·rw[if_neg b]at h0;cases h0
theorem mW(n:Nat)(x:Tm n)(a:bL n x=0):∀y∈aI n x,cN y=true:=
 ye _ _ _ _ (kS n x 0).symm a
theorem nw{x:Tm (n+1)}{y:Tm n}(b:y∈x.2.2){a:Nd}(c:a∈aI n y):a∈aI (n+1) x:=by
 simp only[aI,cr,kt];exact am ⟨y,b,c⟩
theorem lh(x:Nd)(a:cN x=true):x.1.1=1\/x.1.1=2\/x.1.1=3\/x.1.1=4\/x.1.1=5\/(x.1.1=6/\x.1.2.1=0):=by
 by_cases b:x.1.1=1
 ·exact ak b
 by_cases c:x.1.1=2
 ·exact am (ak c)
 by_cases d:x.1.1=3
 ·exact am (am (ak d))
 by_cases e:x.1.1=4
 ·exact am (am (am (ak e)))
 by_cases f:x.1.1=5
 ·exact am (am (am (am (ak f))))
 by_cases g:x.1.1=6
 ·refine am (am (am (am (am ⟨g,?_⟩))));unfold cN at a;rw[if_neg b,if_neg c,if_neg d,if_neg e,if_neg f,if_pos g]at a;simp only[aT,cU]at a;exact a.1.2
 ·unfold cN at a;rw[if_neg b,if_neg c,if_neg d,if_neg e,if_neg f,if_neg g]at a;cases a
def aO{c d:Type}(f:c->d->Bool):List c->List d->Bool
 | [],[]=>true
 | a::p,b::q=>f a b && aO f p q
 | _,_=>false
def aK:(n:Nat)->Tm n->(m:Nat)->Tm m->Bool
 | n+1,x,m+1,y=>x.1.1==y.1.1 && x.1.2.1==y.1.2.1 && x.1.2.2.toList==y.1.2.2.toList && aO (λa b=>aK n a m b) x.2.2 y.2.2
 | _,_,_,_=>false
theorem ge{b:Bool}(c:a=b):Ending.returned (.bool a)=aw (.bool b):=by rw[c]
theorem Db{c d:Type}(f:c->d->Bool):(p:List c)->(q:List d)->¬p.length=q.length->aO f p q=false
 | [],[],h=>by simp at h
 | [],_::_,_=>rfl
 | _::_,[],_=>rfl
 | a::p,b::q,h=>by
  simp only[aO];rw[Db f p q (by simpa using h)];simp
theorem vH(x y:Int):(x<y/\oU x y=-1)\/(x=y/\oU x y=0)\/(y<x/\oU x y=1):=by
 unfold oU;by_cases a:x<y
 ·rw[if_pos a];exact ak ⟨a,rfl⟩
 ·rw[if_neg a];by_cases b:y<x
  ·rw[if_pos b];exact am (am ⟨b,rfl⟩)
  ·rw[if_neg b];exact am (ak ⟨by omega,rfl⟩)
theorem Kf:(x y:List UInt8)->Op.bytesLess x y=false->Op.bytesLess y x=false->x=y
 | [],[],_,_=>rfl
 | [],_::_,h,_=>by simp[Op.bytesLess]at h
 | _::_,[],_,h=>by simp[Op.bytesLess]at h
 | a::x,b::y,h,h'=>by
  simp only[Op.bytesLess,Bool.or_eq_false_iff,decide_eq_false_iff_not,Bool.and_eq_false_iff,dM]at h h';obtain⟨c,d⟩:=h;obtain⟨f,g⟩:=h';have e:a=b:=by
   rw[UInt8.lt_iff_toNat_lt]at c f;exact UInt8.toNat_inj.1 (by omega)
  subst e;rw[Kf x y (d.resolve_left (λn=>n rfl)) (g.resolve_left (λn=>n rfl))]
theorem yd(l:List UInt8):Op.bytesLess l l=false:=by
 induction l with
 | nil=>rfl
 | cons a l ih=>simp[Op.bytesLess,ih]
theorem Kr(x y:aq):(Op.bytesLess x.toList y.toList=true/\xB x y=-1)\/(x.toList=y.toList/\xB x y=0)\/(Op.bytesLess y.toList x.toList=true/\xB x y=1):=by
 unfold xB;cases h:Op.bytesLess x.toList y.toList
 ·by_cases a:x.toList=y.toList
  ·rw[a];simp
  ·have c:Op.bytesLess y.toList x.toList=true:=by
     cases h2:Op.bytesLess y.toList x.toList
     ·exact(a (Kf _ _ h h2)).elim
     ·rfl
   have b:(x.toList==y.toList)=false:=by simpa using a
   rw[b];simp[c]
 ·simp
theorem dH{x:Tm 0}(c:∀a∈aI 0 x,cN a=true):False:=by
 have:=c ((0,0,.empty),(none,0,0)) (by simp[aI]);rcases lh _ this with b|b|b|b|b|⟨b,_⟩<;>simp at b
theorem yN{h i:Type}(f:h->i->Int)(g:h->i->Bool):(p:List h)->(q:List i)->p.length=q.length->(∀a∈p,∀b∈q,(f a b=0 ↔ g a b=true))->(qt f p q=0 ↔ aO g p q=true)
 | [],[],_,_=>by simp[qt,aO]
 | [],_::_,e,_=>by simp at e
 | _::_,[],e,_=>by simp at e
 | a::p,b::q,e,H=>by
  have j:=H a (by simp) b (by simp);have m:=yN f g p q (by simpa using e) (λk n l o=>H k (by simp[n]) l (by simp[o]));simp only[qt,aO,aT];by_cases d:f a b=0
  ·rw[if_pos d,m];exact⟨λc=>⟨j.1 d,c⟩,λc=>c.2⟩
  ·rw[if_neg d];exact⟨λc=>(d c).elim,λc=>(d (j.2 c.1)).elim⟩
theorem eY(x:Nd)(b:cN x=true):(x.1.1≠2->x.1.2.2.toList=[])/\(x.1.1=2->x.1.2.1=0)/\(x.1.1=4->x.1.2.1=0)/\(x.1.1=6->x.1.2.1=0)/\(x.1.1≠4->x.2.2.1=0):=by
 have c:=lh x b;unfold cN at b;rcases c with a|a|a|a|a|⟨a,d⟩
 all_goals (rw[a]at b ⊢;simp at b ⊢;simp[b])
theorem CT:(n:Nat)->(x:Tm n)->(m:Nat)->(y:Tm m)->(∀a∈aI n x,cN a=true)->(∀a∈aI m y,cN a=true)->(yM n x m y=0 ↔ aK n x m y=true)
 | 0,_,_,_,f,_=>(dH f).elim
 | _+1,_,0,_,_,f=>(dH f).elim
 | n+1,x,m+1,y,hx,hy=>by
  have l:=eY _ (hx (x.1,(x.2.1.1,x.2.2.length,x.2.1.2)) (by simp[aI]));have j:=eY _ (hy (y.1,(y.2.1.1,y.2.2.length,y.2.1.2)) (by simp[aI]));have B:=lh _ (hx (x.1,(x.2.1.1,x.2.2.length,x.2.1.2)) (by simp[aI]));have H:=λe=>yN (λa b=>yM n a m b) (λa b=>aK n a m b) x.2.2 y.2.2 e (λa F b G=>CT n a m b (λd v=>hx d (nw F v)) (λd v=>hy d (nw G v)));simp only at l j B;simp only[yM,aK];have E:=Kr x.1.2.2 y.1.2.2;have L:=vH x.1.2.1 y.1.2.1;have M:=vH x.1.1 y.1.1;have N:=vH x.2.2.length y.2.2.length;obtain⟨⟨k,C,s⟩,⟨a,c⟩,p⟩:=x;obtain⟨⟨A,w,I⟩,⟨J,K⟩,q⟩:=y;simp only at*;clear hx hy;by_cases e:k=A
  ·subst e;rw[if_pos rfl];have o:k≠4->p=[]/\q=[]:=λf=>⟨b9 (l.2.2.2.2 f),b9 (j.2.2.2.2 f)⟩;have r:k≠2->s.toList=[]/\I.toList=[]:=λf=>⟨l.1 f,j.1 f⟩;rcases B with g|g|g|g|g|⟨g,D⟩
   ·subst g;obtain⟨rfl,rfl⟩:=o (by decide);obtain⟨h,i⟩:=r (by decide);rw[if_pos (by decide),h,i];simp[aO];omega
   ·subst g;obtain⟨rfl,rfl⟩:=o (by decide);have z:C=0:=l.2.1 rfl;have t:w=0:=j.2.1 rfl;subst z t;rw[if_neg (by decide),if_pos rfl];simp[aO];rcases E with⟨f,u⟩|⟨f,u⟩|⟨f,u⟩
    ·refine⟨λe=>by omega,λe=>?_⟩;rw[e,yd]at f;cases f
    ·exact⟨λ_=>f,λ_=>u⟩
    ·refine⟨λe=>by omega,λe=>?_⟩;rw[e,yd]at f;cases f
   ·subst g;obtain⟨rfl,rfl⟩:=o (by decide);obtain⟨h,i⟩:=r (by decide);rw[if_pos (by decide),h,i];simp[aO];omega
   ·subst g;obtain⟨h,i⟩:=r (by decide);have z:C=0:=l.2.2.1 rfl;have t:w=0:=j.2.2.1 rfl;subst z t;rw[if_neg (by decide),if_neg (by decide),if_pos rfl,h,i];by_cases el:p.length=q.length
    ·rw[if_pos el,H el];simp
    ·rw[if_neg el,Db _ _ _ el];simp;omega
   ·subst g;obtain⟨rfl,rfl⟩:=o (by decide);obtain⟨h,i⟩:=r (by decide);rw[if_pos (by decide),h,i];simp[aO];omega
   ·subst g;obtain⟨rfl,rfl⟩:=o (by decide);obtain⟨h,i⟩:=r (by decide);have t:w=0:=j.2.2.2.1 rfl;subst D t;rw[if_neg (by decide),if_neg (by decide),if_neg (by decide),h,i];simp[aO]
  ·rw[if_neg e];have:(k==A)=false:=by simpa using e
   rw[this];simp;omega
abbrev An:=(n:Nat)×Tm n
def cm:An->Int
 | ⟨0,_⟩=>0
 | ⟨_+1,x⟩=>x.1.1
def eJ(x y:An):Bool:=aK x.1 x.2 y.1 y.2
def GY(B:Nat)(w:ah)(x:An):Prop:=In B w x.1 x.2
def aM(x:An):Prop:=∀a∈aI x.1 x.2,cN a=true
def jR{a c S:Type}(f:a->c->S->Option S):List a->List c->S->Option S
 | x::p,y::q,b=>(f x y b).bind (jR f p q)
 | _,_,b=>some b
def vV(b:List An)(i:Nat)(t:An):Option (List An):=
 match b[i]? with
 | some a=>if cm a=6 then some (b.set i t)else if eJ a t then some b else none
 | none=>none
def jc:(n:Nat)->Tm n->(m:Nat)->Tm m->List An->Option (List An)
 | n+1,p,m+1,t,b=>
  if p.1.1=6 then some b
  else if p.1.1=5 then vV b p.1.2.1.toNat ⟨m+1,t⟩
  else if p.1.1=4 then
   if t.1.1=4/\p.2.2.length=t.2.2.length then jR (λx y b=>jc n x m y b) p.2.2 t.2.2 b else none
  else if aK (n+1) p (m+1) t then some b else none
 | _,_,_,_,_=>none
def QQ(x y:An)(b:List An):Option (List An):=jc x.1 x.2 y.1 y.2 b
def lR:List (An×An)->List An->Option (List An)
 | [],b=>some b
 | (x,y)::r,b=>(QQ x y b).bind (lR r)
def kK(n m:Nat)(p:List (Tm n))(q:List (Tm m)):List (An×An):=List.zipWith (λx y=>(⟨n,x⟩,⟨m,y⟩)) p q
def vn(P:An->Prop):Prop:=∀(n:Nat)(x:Tm (n+1))(y:Tm n),P ⟨n+1,x⟩->y∈x.2.2->P ⟨n,y⟩
theorem yt{a e S:Type}(f:a->e->S->Option S)(Q:S->Prop):(p:List a)->(q:List e)->(∀x∈p,∀y∈q,∀b c,Q b->f x y b=some c->Q c)->∀b c,Q b->jR f p q b=some c->Q c
 | [],_,_,b,c,hb,h=>by simp[jR]at h;rw[<-h];exact hb
 | _::_,[],_,b,c,hb,h=>by simp[jR]at h;rw[<-h];exact hb
 | x::p,y::q,hf,b,c,hb,h=>by
  simp only[jR]at h;obtain⟨d,g,i⟩:=cv.1 h;exact yt f Q p q (λx' j l k=>hf x' (cd _ j) l (cd _ k)) d c (hf x (by simp) y (by simp) b d hb g) i
theorem Ic(P:An->Prop)(b c:List An)(i:Nat)(t:An)(f:P t)(d:b.length=4/\∀y∈b,P y)(a:vV b i t=some c):c.length=4/\∀y∈c,P y:=by
 unfold vV at a;split at a
 ·split at a
  ·obtain rfl:=aJ a;refine⟨by simpa using d.1,λy g=>?_⟩;rcases tX g with e|rfl
   ·exact d.2 y e
   ·exact f
  ·split at a
   ·obtain rfl:=aJ a;exact d
   ·cases a
 ·cases a
theorem lQ(P:An->Prop)(d:vn P):(n:Nat)->(p:Tm n)->(m:Nat)->(t:Tm m)->P ⟨m,t⟩->∀b c,(b.length=4/\∀y∈b,P y)->jc n p m t b=some c->(c.length=4/\∀y∈c,P y)
 | 0,_,_,_,_,_,_,_,h=>by simp[jc]at h
 | n+1,_,0,_,_,_,_,_,h=>by simp[jc]at h
 | n+1,p,m+1,t,ht,b,c,a,h=>by
  simp only[jc]at h;split at h
  ·obtain rfl:=aJ h;exact a
  split at h
  ·exact Ic P b c _ _ ht a h
  split at h
  ·split at h
   ·exact yt _ _ p.2.2 t.2.2 (λx g y f b c a e=>lQ P d n x m y (d m t y ht f) b c a e) b c a h
   ·cases h
  ·split at h
   ·obtain rfl:=aJ h;exact a
   ·cases h
theorem Ib{S:Type}(f:d->h->S->Option S)(p:List d)(q:List h)(k:Nat)(x:d)(y:h)(i:p[k]?=some x)(j:q[k]?=some y)(b:S):jR f (p.drop k) (q.drop k) b=(f x y b).bind (jR f (p.drop (k+1)) (q.drop (k+1))):=by
 obtain⟨e,a⟩:=bj.1 i;obtain⟨g,c⟩:=bj.1 j;rw[fq e,fq g,a,c];rfl
theorem LD(B:Nat)(w:ah):vn (GY B w):=by
 intro n h i d c;rcases d.2 with a|⟨b,o,j,k,a⟩
 ·have e:h.2.2=[]:=a;rw[e]at c;cases c
 ·obtain⟨g,f⟩:=dj c;exact(a g i f).2
theorem bu:vn aM:=λ_ _ _ b d a c=>b a (nw d c)
theorem I3{P Q:An->Prop}(c:vn P)(d:vn Q):vn λx=>P x/\Q x:=λn x y a b=>⟨c n x y a.1 b,d n x y a.2 b⟩
theorem uj(s:aq)(w:ah)(l:s.size<=9223372036854775807):au 113 #[ag s] w λe w'=>e=aw (.bool (gE s.data.toList))/\w'=w:=by
 go_enter func113,ntmps113;go_wp2_with fail
 go_loop [3] (λb=>∃k:Nat,k<=s.size/\b=ae k/\Hid (gE (s.data.toList.take k)=true)) (λb=>s.size-(intOf b).toNat)
 case atStart=>exact⟨0,aN _,rfl,by simp[Hid,gE]⟩
 case round=>
  obtain⟨k,j,rfl,f⟩:=hrel;by_cases i:k<s.size
  ·have c:=av (wF s k i);have d:Hid (Ax s[k]=false->false=gE s.data.toList):=λg=>by
    have a:gE s.data.toList=(gE (s.data.toList.take (k+1)) && gE (s.data.toList.drop (k+1))):=by
     conv=>lhs;rw[<-iN (k+1) s.data.toList]
     simp only[gE,lA]
    rw[a,c.out,g];simp
   by_cases h:97<=(s[k].toNat:Int)
   ·by_cases a:(s[k].toNat:Int)<=122
    ·go_wp2_with fail
     go_round
     case rel=>exact⟨k+1,by omega,by go_num,by simp only[Hid];rw[c.out,f.out];simp[Ax,h,a]⟩
     case measure=>simp[intOf];omega
    ·go_wp2_with fail
     go_ret
     exact⟨b8 (d (by simp[Ax,a])),rfl⟩
   ·go_wp2_with fail
    go_ret
    exact⟨b8 (d (by simp[Ax];omega)),rfl⟩
  ·go_wp2_with fail
   go_ret
   exact⟨b8 (by rw[<-f.out,bI (by simp;omega)]),rfl⟩
theorem jf(s:aq)(w:ah)(d:s.size<=9223372036854775807):au 115 #[ag s] w λe w'=>e=aw (.bool (ek s))/\w'=w:=by
 by_cases b:(1:Int)<=s.size
 ·by_cases c:(s.size:Int)<=8
  ·have a:Hid (ek s=gE s.data.toList):=by simp only[Hid,ek,qX];simp[b,c]
   go_enter func115,ntmps115;go_wp2_with (go_at_call 113;refine(uj _ _ d).mono ?_;rintro e w' ⟨rfl,rfl⟩)
   all_goals go_ret
   all_goals exact⟨b8 (by rw[a.out]),rfl⟩
  ·have a:Hid (ek s=false):=by simp only[Hid,ek,qX];simp[c]
   go_enter func115,ntmps115;go_wp2_with fail
   go_ret
   exact⟨b8 (by rw[a.out]),rfl⟩
 ·have a:Hid (ek s=false):=by simp only[Hid,ek,qX];simp[b]
  go_enter func115,ntmps115;go_wp2_with fail
  go_ret
  exact⟨b8 (by rw[a.out]),rfl⟩
def bR(n:Nat)(x:Tm (n+1)):Nd:=(x.1,(x.2.1.1,x.2.2.length,x.2.1.2))
def cw:(n:Nat)->Tm n->Bool
 | 0,_=>false
 | n+1,x=>cN (bR n x) && (!(x.1.1==4) || x.2.2.all λy=>cw n y)
def Om(n:Nat):Prop:=∀(x:Tm n)(B:Nat)(w:ah),In B w n x->B<=w.heap.size->
 au 77 #[dG n x] w λe w'=>e=aw (.bool (cw n x))/\ap w w'
theorem kU(w:ah)(k b:Int)(s:aq)(a:ay)(l c:Nat)(d:k=1\/k=3\/k=5\/k=6):au 77 #[aB k b s a l c] w λe w'=>e=aw (.bool (cN ((k,b,s),(a,l,c))))/\ap w w':=by
 rcases d with rfl|rfl|rfl|rfl
 all_goals
  go_enter func77,ntmps77;go_wp2
  all_goals go_ret
  all_goals refine⟨b8 ?_,by go_grown⟩
  all_goals go_light
  all_goals first|(simp[cN,qX, *];done)|(simp[cN,qX, *];omega)
theorem Ci(w:ah)(b:Int)(s:aq)(a:ay)(l c:Nat)(d:s.size<=9223372036854775807):au 77 #[aB 2 b s a l c] w λe w'=>e=aw (.bool (cN ((2,b,s),(a,l,c))))/\ap w w':=by
 go_enter func77,ntmps77;go_wp2_with (go_at_call 115;refine(jf _ _ d).mono ?_;rintro e w' ⟨rfl,rfl⟩)
 all_goals go_ret
 all_goals refine⟨b8 ?_,by go_grown⟩
 all_goals go_light
 all_goals first|(simp[cN, *];done)|(simp[cN, *];omega)
theorem Cj(w:ah)(k j:Int)(s:aq)(a:ay)(l c:Nat)(b:¬k=1)(d:¬k=2)(f:¬k=3)(g:¬k=4)(h:¬k=5)(i:¬k=6):au 77 #[aB k j s a l c] w λe w'=>e=aw (.bool (cN ((k,j,s),(a,l,c))))/\ap w w':=by
 have m:cN ((k,j,s),(a,l,c))=false:=by simp[cN,b,d,f,g,h,i]
 rw[m];have n:(k==1)=false:=by simpa using b
 have o:(k==2)=false:=by simpa using d
 have p:(k==3)=false:=by simpa using f
 have q:(k==4)=false:=by simpa using g
 have r:(k==5)=false:=by simpa using h
 have t:(k==6)=false:=by simpa using i
 clear b d f g h i m;go_enter func77,ntmps77;go_wp2_with fail
 go_ret
 exact⟨rfl,by go_grown⟩
theorem Bw(n:Nat)(ih:Om n)(p:List (Tm n))(len:Nat)(z:Hid (p.length=len))(a:ay)(pc B:Nat)(w:ah)(g:Hid (p=[]\/∃b o,a=some ⟨b,o,none⟩/\b<B/\∀(i:Nat)(y:Tm n),p[i]?=some y->eh w b (o+i*4) n y/\In B w n y))(K:len<=9223372036854775807)(r:B<=w.heap.size):au 116 #[af a len pc] w λe w'=>e=aw (.bool (decide ((len:Int)<=8) && p.all λy=>cw n y))/\ap w w':=by
 by_cases G:(8:Int)<len
 ·have j:decide ((len:Int)<=8)=false:=by simp;omega
  rw[j];go_enter func116,ntmps116;go_wp2_with fail
  go_ret
  exact⟨rfl,aH _ _⟩
 have j:decide ((len:Int)<=8)=true:=by simp;omega
 rw[j,eU];clear j;go_enter func116,ntmps116;go_wp2_with fail;go_loopw [10] (λi wr=>∃k:Nat,k<=len/\i=ae k/\ap w wr/\Hid (((p.drop k).all λy=>cw n y)=p.all λy=>cw n y)) (λi _=>len-(intOf i).toNat)
 case atStart=>exact⟨0,by omega,rfl,aH _ _,rfl⟩
 case round=>
  obtain⟨k,H,rfl,d,s⟩:=hrel;by_cases D:k<len
  ·obtain⟨c,l⟩:∃c,p[k]?=some c:=⟨p[k]'(by rw[z.out];exact D),aV _⟩;have t:Hid (((p.drop k).all λy=>cw n y)=(cw n c && (p.drop (k+1)).all λy=>cw n y)):=by
    obtain⟨h,C⟩:=bj.1 l;rw[fq h,C];rfl
   rcases g.out with g|⟨L,po,rfl,E,g⟩
   ·subst g;simp at l
   obtain⟨m,q⟩:=g k c l;replace m:=m.below (d.mono r) E;replace q:=q.below (d.mono r);clear g l;cases n with
   | zero=>exact m.elim
   | succ n=>
   obtain⟨M,N,O,P⟩:=m;have u:B<=wr.heap.size:=aG r d.size
   have A:Hid (∀f,ap wr f->au 77 #[aB c.1.1 c.1.2.1 c.1.2.2 c.2.1.1 c.2.2.length c.2.1.2] f λe w'=>e=aw (.bool (cw (n+1) c))/\ap f w'):=
    λf h=>ih c B f (q.below (h.mono u)) (aG u h.size)
   clear ih q;generalize c.2.2.length=Q at*;generalize cw (n+1) c=F at*;have I:(0:Int)<=(k:Int):=by omega
   have J:(k:Int)<(len:Int):=by omega
   go_wp2_with fail;refine(A _ (aW _ _)).mono ?_;rintro e f ⟨rfl,v⟩;have x:ap w f:=(d.trans ((aW _ _).mono d.size)).trans (v.mono (by have:=d.size;simp;omega));clear v;cases F with
   | true=>
    go_wp2_with fail;go_roundw
    case rel=>exact⟨k+1,by omega,by go_num,x,by rw[<-s.out,t.out];rfl⟩
    case measure=>simp[intOf];omega
   | false=>
    go_wp2_with fail
    go_ret
    exact⟨b8 (by rw[<-s.out,t.out];rfl),x⟩
  ·go_wp2_with fail
   go_ret
   refine⟨b8 ?_,d⟩;rw[<-s.out,ko (by rw[z.out];omega)];rfl
theorem Ey(w:ah)(b:Int)(s:aq)(a:ay)(l c:Nat)(r:Bool)(H:Hid (∀w1:ah,ap w w1->au 116 #[af a l c] w1 λe w'=>e=aw (.bool (decide ((l:Int)<=8) && r))/\ap w1 w')):au 77 #[aB 4 b s a l c] w λe w'=>e=aw (.bool (cN ((4,b,s),(a,l,c)) && r))/\ap w w':=by
 have f:cN ((4,b,s),(a,l,c))=(s.toList.isEmpty && b==0 && decide ((l:Int)<=8)):=by simp[cN]
 rw[f];generalize decide ((l:Int)<=8)=h at*;clear f;cases h1:b==0
 ·go_enter func77,ntmps77;go_wp2_with fail
  go_ret
  exact⟨b8 (by simp),by go_grown⟩
 cases h2:s.toList.isEmpty
 ·go_enter func77,ntmps77;go_wp2_with fail
  go_ret
  exact⟨b8 (by simp),by go_grown⟩
 go_enter func77,ntmps77;go_wp2_with fail;refine(H _ (aW _ _)).mono ?_;rintro e w1 ⟨rfl,d⟩;have g:ap w w1:=(aW _ _).trans (d.mono (by simp));clear d;go_wp2_with fail
 all_goals go_ret
 all_goals exact⟨b8 (by simp),g⟩
theorem Ex(n:Nat):Om n:=by
 induction n with
 | zero=>intro B q c l;exact l.elim
 | succ n ih=>
  intro B q c l i;obtain⟨⟨k,e,d⟩,⟨a,pc⟩,p⟩:=B;obtain⟨⟨_,_,t,D,s⟩,f⟩:=l;simp only at t D s f;unfold maxLen at s t;show au 77 #[aB k e d a p.length pc] c λh E=>h=aw (.bool (cN ((k,e,d),(a,p.length,pc)) && (!(k==4) || p.all λg=>cw n g)))/\ap c E;by_cases m:k=4
  ·subst m;refine Ey c e d a p.length pc _ (λF j=>Bw n ih p p.length rfl a pc q F ?_ (by omega) (aG i j.size));rcases f with f|⟨b,o,h,r,f⟩
   ·exact ak f
   ·exact am ⟨b,o,h,r,λv g u=>⟨(f v g u).1.below (j.mono i) r,(f v g u).2.below (j.mono i)⟩⟩
  ·have C:(!(k==4) || p.all λg=>cw n g)=true:=by simp[m]
   rw[C,Bool.and_true];by_cases w:k=1
   ·exact kU c k e d a p.length pc (ak w)
   by_cases x:k=2
   ·subst x;exact Ci c e d a p.length pc (by omega)
   by_cases y:k=3
   ·exact kU c k e d a p.length pc (am (ak y))
   by_cases z:k=5
   ·exact kU c k e d a p.length pc (am (am (ak z)))
   by_cases A:k=6
   ·exact kU c k e d a p.length pc (am (am (am A)))
   ·exact Cj c k e d a p.length pc w x y m z A
def cG(P:aX):(n:Nat)->Tm n->Prop
 | 0,_=>False
 | n+1,x=>x.2.2=[]\/∃b o,x.2.1.1=some ⟨b,o,none⟩/\P b/\∀(i:Nat)(y:Tm n),x.2.2[i]?=some y->cG P n y
theorem cG.mono{P Q:aX}(a:∀b,P b->Q b):{n:Nat}->{x:Tm n}->cG P n x->cG Q n x
 | 0,_,k=>k
 | _+1,_,k=>by
  rcases k with k|⟨b,o,e,c,k⟩
  ·exact ak k
  ·exact am ⟨b,o,e,a b c,λi y d=>(k i y d).mono a⟩
theorem bN{b:Nat}(a:w'.heap[b]?=w.heap[b]?)(o:Nat):w'.cell? ⟨b,o,none⟩=w.cell? ⟨b,o,none⟩:=by
 simp[World.cell?,a]
theorem eh.block{w w':ah}{b o:Nat}(a:w'.heap[b]?=w.heap[b]?):{n:Nat}->{x:Tm n}->eh w b o n x->eh w' b o n x
 | 0,_,k=>k
 | _+1,_,k=>by
  obtain⟨c,d,e,f⟩:=k;exact⟨(bN a _).trans c,(bN a _).trans d,(bN a _).trans e,(bN a _).trans f⟩
theorem In.off{P:aX}{w w':ah}(f:∀b,P b->w'.heap[b]?=w.heap[b]?){B:Nat}:{n:Nat}->{x:Tm n}->cG P n x->In B w n x->In B w' n x
 | 0,_,_,k=>k
 | _+1,_,p,k=>by
  obtain⟨m,a⟩:=k;refine⟨m,?_⟩;rcases a with a|⟨b,o,e,j,a⟩
  ·exact ak a
  ·rcases p with p|⟨q,r,c,l,p⟩
   ·exact ak p
   ·rw[e]at c;injection c with c;injection c with g h;subst g h;exact am ⟨b,o,e,j,λi y d=>⟨(a i y d).1.block (f b l),(a i y d).2.off f (p i y d)⟩⟩
theorem In.offB{P:aX}{B:Nat}{w:ah}:{n:Nat}->{x:Tm n}->cG P n x->In B w n x->cG (λb=>P b/\b<B) n x
 | 0,_,p,_=>p
 | _+1,_,p,k=>by
  obtain⟨_,a⟩:=k;rcases p with p|⟨b,o,e,h,p⟩
  ·exact ak p
  ·rcases a with a|⟨l,m,c,j,a⟩
   ·exact ak a
   ·rw[e]at c;injection c with c;injection c with f g;subst f g;exact am ⟨b,o,e,⟨h,j⟩,λi y d=>In.offB (p i y d) (a i y d).2⟩
def gM:(n:Nat)->Tm n->Nd
 | 0,_=>((0,0,⟨#[]⟩),(none,0,0))
 | n+1,x=>bR n x
theorem Nl{l:List (Tm (n+1))}(a:w.ownsRow base 54 4 (af (some ⟨g,0,none⟩) L c) L (cO (l.map (gM (n+1)))))(k:Nat)(x:Tm (n+1))(d:l[k]?=some x):eh w g (0+k*4) (n+1) x:=by
 have b:=E6 a k (gM (n+1) x) (by simp[d]);rw[cC];exact b
def rT(base:Nat)(n:Nat)(l:List (Tm n))(v:az)(w:ah):Prop:=
 w.ownsRow base 54 4 v l.length (cO (l.map (gM n)))/\∀a∈l,In w.heap.size w n a/\cG (λb=>base<=b/\v.ownBlock≠some b) n a
theorem rT.tup{l:List (Tm (n+1))}(m:rT base (n+1) l v w):∃a c,v=af a l.length c/\cG (λb=>base<=b) (n+2) ((4,0,⟨#[]⟩),(a,c),l)/\In w.heap.size w (n+2) ((4,0,⟨#[]⟩),(a,c),l):=by
 obtain⟨i,j⟩:=m;have d:dp 4/\dp 0/\(⟨#[]⟩:aq).size<=maxLen:=⟨⟨by omega,by omega⟩,⟨by omega,by omega⟩,aN _⟩;have e:=i;obtain⟨y,e⟩:=e;rcases e with⟨e,o⟩|⟨f,cap,x,rfl,r,s,q,u,A,z⟩
 ·have:l=[]:=b9 o;subst this;refine⟨none,0,by rw[e];rfl,ak rfl,⟨d.1,d.2.1,d.2.2,aN _,aN _⟩,ak rfl⟩
 ·have t:f<w.heap.size:=(aS.1 s).1;refine⟨some ⟨f,0,none⟩,cap,rfl,am ⟨f,0,rfl,r,λk h g=>((j h (aU g)).2).mono λb p=>p.1⟩,⟨d.1,d.2.1,d.2.2,q,u⟩,am ⟨f,0,rfl,t,λk h g=>⟨Nl i k h g,(j h (aU g)).1⟩⟩⟩
def um(a:An):Nd:=gM a.1 a.2
def gt(l:List An):List az:=cO (l.map um)
theorem lP(l:List An):(gt l).length=l.length*4:=by simp[gt,pd]
theorem Bt(l:List An):∀a∈gt l,a.oneCell'=true:=uo _
def nS(base:Nat)(g c:Nat)(b:List An)(w:ah):Prop:=w.ownsRow base 54 4 (af (some ⟨g,0,none⟩) b.length c) b.length (gt b)
variable{b:List An}
theorem nS.cells(a:nS base g c b w)(i:Nat)(y:An)(d:b[i]?=some y):ai w g (i*4) (ae (um y).1.1)/\ai w g (i*4+1) (ae (um y).1.2.1)/\ai w g (i*4+2) (ag (um y).1.2.2)/\ai w g (i*4+3) (.slice (um y).2.1 (um y).2.2.1 (um y).2.2.2):=
 E6 (l:=b.map um) a i (um y) (by simp[d])
theorem nS.lt{base g c:Nat}{b:List An}{w:ah}(a:nS base g c b w):base<=g/\g<w.heap.size:=World.ownsRow.lt a g rfl
theorem nS.kept{base g c:Nat}{b:List An}{w w':ah}(d:nS base g c b w){row:dd}(e:w.grownBy w' row)(f:row≠some g):nS base g c b w':=
 qn d e (am λa=>f a.symm)
theorem dm(a:ap w w')(row:dd):w.grownBy w' row:=⟨a.os,a.tape,a.output,a.size,λk b _=>a.block k b⟩
theorem nS.below(a:nS base g c b w)(d:ap w w'):nS base g c b w':=a.kept (dm d none) (by simp)
theorem oZ(a:w.grownBy w' (some g))(b:B<=g)(c:g<w.heap.size):Below B w w':=⟨a.os,a.tape,a.output,a.size,λk d=>a.block k (by omega) (by simp;omega)⟩
theorem my{row:dd}(a:w.grownBy w1 row)(k:w1.grownBy w2 row):w.grownBy w2 row:=
 ⟨k.os.trans a.os,k.tape.trans a.tape,k.output.trans a.output,aG a.size k.size,λb c d=>(k.block b (bi c a.size) d).trans (a.block b c d)⟩
theorem nS.free(e:nS base g c b w)(j:Nat):w.frozen? ⟨g,j,none⟩=false:=by
 obtain⟨n,d⟩:=e;rcases d with⟨d,_⟩|⟨m,cap,i,h,q,f,o,r,s,p⟩
 ·simp at d
 ·injection h with a k l;injection a with a;injection a with a _;subst a;simp[World.frozen?,f]
def dl(w:ah)(g o:Nat)(v0 v1 v2 v3:az):ah:=(((w.setCell ⟨g,o,none⟩ v0).setCell ⟨g,o+1,none⟩ v1).setCell ⟨g,o+2,none⟩ v2).setCell ⟨g,o+3,none⟩ v3
def jY(w:ah)(g o:Nat)(x:Nd):ah:=dl w g o (ae x.1.1) (ae x.1.2.1) (ag x.1.2.2) (af x.2.1 x.2.2.1 x.2.2.2)
theorem jP(i:w.ownsRow base e size (af (some ⟨g,0,none⟩) L c) L xs)(j:Nat)(d:az):(w.setCell ⟨g,j,none⟩ d).ownsRow base e size (af (some ⟨g,0,none⟩) L c) L (xs.set j d):=by
 obtain⟨k,b⟩:=i;refine⟨by simpa using k,?_⟩;rcases b with⟨b,_⟩|⟨t,cap,f,q,n,o,l,p,r,m⟩
 ·simp at b
 ·injection q with a s h;injection a with a;injection a with a _;subst a h;refine am ⟨g,c,f.setIfInBounds j d,rfl,n,?_,l,p,by simpa using r,?_⟩
  ·simp[World.setCell,bS,o]
  ·rw[<-m];simp[List.take_set]
theorem uq:(l:List Nd)->(i:Nat)->(x:Nd)->i<l.length-> ((((cO l).set (i*4) (ae x.1.1)).set (i*4+1) (ae x.1.2.1)).set (i*4+2) (ag x.1.2.2)).set (i*4+3) (af x.2.1 x.2.2.1 x.2.2.2)=cO (l.set i x)
 | [],i,x,h=>by simp at h
 | y::l,0,x,_=>by simp[cO,wL]
 | y::l,i+1,x,h=>by
  have ih:=uq l i x (by simpa using h);have e:cO (y::l)=wL y++cO l:=rfl;have b:cO ((y::l).set (i+1) x)=wL y++cO (l.set i x):=rfl;have a:(wL y).length=4:=rfl;rw[e,b,<-ih];rw[iM _ _ (by rw[a];omega),iM _ _ (by rw[a];omega),iM _ _ (by rw[a];omega),iM _ _ (by rw[a];omega),a];rw[show (i+1)*4-4=i*4 by omega,show (i+1)*4+1-4=i*4+1 by omega,show (i+1)*4+2-4=i*4+2 by omega,show (i+1)*4+3-4=i*4+3 by omega]
theorem nS.put(d:nS base g c b w)(i:Nat)(t:An)(e:i<b.length):nS base g c (b.set i t) (jY w g (i*4) (um t)):=by
 have a:=jP (jP (jP (jP d (i*4) (ae (um t).1.1)) (i*4+1) (ae (um t).1.2.1)) (i*4+2) (ag (um t).1.2.2)) (i*4+3) (.slice (um t).2.1 (um t).2.2.1 (um t).2.2.2);unfold gt at a;rw[uq (b.map um) i (um t) (by simpa using e)]at a;unfold nS gt;rw[List.map_set,lE];exact a
theorem bz{b:Nat}(c:b≠g)(v0 v1 v2 v3:az):(dl w g o v0 v1 v2 v3).heap[b]?=w.heap[b]? :=by
 have d:g≠b:=λa=>c a.symm;simp[dl,World.setCell,bS,d]
theorem bK(v0 v1 v2 v3:az):(dl w g o v0 v1 v2 v3).heap.size=w.heap.size:=by simp[dl,World.setCell]
theorem Fg(v0 v1 v2 v3:az):w.grownBy (dl w g o v0 v1 v2 v3) (some g):=
 ⟨rfl,rfl,rfl,cT (bK _ _ _ _).symm,λk _ b=>bz (λa=>b (by rw[a])) _ _ _ _⟩
theorem F8(c:Below (w.alloc (.cells #[v0,v1,v2,v3] t)).heap.size (w.alloc (.cells #[v0,v1,v2,v3] t)) w'):(ai w' w.heap.size 0 v0/\ai w' w.heap.size 1 v1/\ai w' w.heap.size 2 v2/\ai w' w.heap.size 3 v3)/\ (w'.frozen? ⟨w.heap.size,0,none⟩=false/\w'.frozen? ⟨w.heap.size,1,none⟩=false/\w'.frozen? ⟨w.heap.size,2,none⟩=false/\w'.frozen? ⟨w.heap.size,3,none⟩=false):=by
 have a:=λo=>c.cell (p:=⟨w.heap.size,o,none⟩) (by simp);have b:=λo=>c.frozen (p:=⟨w.heap.size,o,none⟩) (by simp);exact⟨⟨(a 0).trans (by simp[go_sem]),(a 1).trans (by simp[go_sem]),(a 2).trans (by simp[go_sem]),(a 3).trans (by simp[go_sem])⟩,(b 0).trans (by simp[go_sem]),(b 1).trans (by simp[go_sem]),(b 2).trans (by simp[go_sem]),(b 3).trans (by simp[go_sem])⟩
theorem oT(b:q<w1.heap.size)(h:ap w1 w2)(k:ai w1 q 0 f/\ai w1 q 1 i/\ai w1 q 2 j/\ai w1 q 3 l):ai w2 q 0 f/\ai w2 q 1 i/\ai w2 q 2 j/\ai w2 q 3 l:=by
 obtain⟨c,d,e,g⟩:=k;have a:=aC h;exact⟨(a _ _ b).trans c,(a _ _ b).trans d,(a _ _ b).trans e,(a _ _ b).trans g⟩
def fi(base g c:Nat)(o:Option (List An))(w:ah)(e:Ending)(w':ah):Prop:=
 e=aw (.bool o.isSome)/\w.grownBy w' (some g)/\∀b,o=some b->nS base g c b w'
def DQ(B:Nat)(w:ah)(b:List An):Prop:=b.length=4/\∀y∈b,GY B w y/\aM y
theorem GY.below{B:Nat}{w w':ah}(a:Below B w w'){x:An}(k:GY B w x):GY B w' x:=In.below a k
theorem DQ.below{B:Nat}{w w':ah}(c:Below B w w'){b:List An}(k:DQ B w b):DQ B w' b:=⟨k.1,λy a=>⟨(k.2 y a).1.below c,(k.2 y a).2⟩⟩
theorem DQ.fit{a:List An}(k:DQ B w b){p:Tm n}{t:Tm m}(f:In B w m t)(e:aM ⟨m,t⟩)(d:jc n p m t b=some a):DQ B w a:=
 lQ (λc=>GY B w c/\aM c) (I3 (LD B w) bu) n p m t ⟨f,e⟩ b a k d
def OJ(n:Nat):Prop:=∀(p:Tm n)(m:Nat)(t:Tm m)(b:List An)(base g c B:Nat)(w:ah),In B w n p->In B w m t->aM ⟨n,p⟩->aM ⟨m,t⟩->DQ B w b->B<=base->nS base g c b w->
 au 227 #[af (some ⟨g,0,none⟩) 4 c,dG n p,dG m t] w (fi base g c (jc n p m t b) w)
theorem vG(x y:Int)(w:ah):au 242 #[ae x,ae y] w λe w'=>e=aw (ae (oU x y))/\w'=w:=by
 go_enter func242,ntmps242;go_wp2
 all_goals go_ret
 all_goals refine⟨jJ ?_,rfl⟩
 all_goals unfold oU
 all_goals (repeat' split)<;>omega
theorem Kq(x y:aq)(w:ah):au 243 #[ag x,ag y] w λe w'=>e=aw (ae (xB x y))/\w'=w:=by
 go_enter func243,ntmps243;go_wp2
 all_goals go_ret
 all_goals refine⟨jJ ?_,rfl⟩
 all_goals unfold xB
 all_goals simp[*]
attribute [local go_sem ↓] Go.wp_at_zero Go.wp_at_succ
def F5(n:Nat):Prop:=∀(x:Tm n)(m:Nat)(y:Tm m)(B:Nat)(w:ah),In B w n x->In B w m y->B<=w.heap.size->
 au 237 #[dG n x,dG m y] w λe w'=>e=aw (ae (yM n x m y))/\ap w w'
theorem MP(p q:Nat)(a c:ay)(pc d:Nat)(w:ah)(_hpc:p<=9223372036854775807)(_hqc:q<=9223372036854775807)(b:((p:Int)==(q:Int))=false):au 244 #[af a p pc,af c q d] w λe w'=>e=aw (ae (oU p q))/\w'=w:=by
 have f:((p:Int) !=(q:Int))=true:=by simpa using b
 go_enter func244,ntmps244;go_wp2_with (go_at_call 242;refine(vG _ _ _).mono ?_;rintro e w' ⟨rfl,rfl⟩)
 go_ret
 exact⟨rfl,rfl⟩
theorem MO(n m:Nat)(ih:F5 n)(p:List (Tm n))(q:List (Tm m))(len:Nat)(M:Hid (p.length=len))(V:Hid (q.length=len))(g po h l pc X:Nat)(B:Nat)(w:ah)(ai:len<=9223372036854775807)(T:g<B)(U:h<B)(L:∀(i:Nat)(y:Tm n),p[i]?=some y->eh w g (po+i*4) n y/\In B w n y)(N:∀(i:Nat)(y:Tm m),q[i]?=some y->eh w h (l+i*4) m y/\In B w m y)(o:B<=w.heap.size):au 244 #[af (some ⟨g,po,none⟩) len pc,af (some ⟨h,l,none⟩) len X] w λe w'=> e=aw (ae (qt (λa b=>yM n a m b) p q))/\ap w w':=by
 go_enter func244,ntmps244;go_wp2_with fail;go_loopw [19] (λi wr=>∃k:Nat,k<=len/\i=ae k/\ap w wr/\Hid (qt (λa b=>yM n a m b) (p.drop k) (q.drop k)=qt (λa b=>yM n a m b) p q)) (λi _=>len-(intOf i).toNat)
 case atStart=>exact⟨0,by omega,rfl,aH _ _,rfl⟩
 case round=>
  obtain⟨k,aa,rfl,f,z⟩:=hrel;by_cases K:k<len
  ·obtain⟨c,A⟩:∃c,p[k]?=some c:=⟨p[k]'(by rw[M.out];exact K),aV _⟩;obtain⟨y,C⟩:∃y,q[k]?=some y:=⟨q[k]'(by rw[V.out];exact K),aV _⟩;obtain⟨s,t⟩:=L k c A;obtain⟨u,v⟩:=N k y C;have E:Hid (qt (λa b=>yM n a m b) (p.drop k) (q.drop k)=if yM n c m y=0 then qt (λa b=>yM n a m b) (p.drop (k+1)) (q.drop (k+1))else yM n c m y):=IX (λa b=>yM n a m b) p q k c y A C;replace s:=s.below (f.mono o) T;replace u:=u.below (f.mono o) U;replace t:=t.below (f.mono o);replace v:=v.below (f.mono o);clear L N A C;cases n with
   | zero=>exact s.elim
   | succ n=>
   cases m with
   | zero=>exact u.elim
   | succ m=>
   obtain⟨al,am,an,ao⟩:=s;obtain⟨y0,y1,y2,aq⟩:=u;have J:∀(d:ah),In B d (n+1) c->In B d (m+1) y->B<=d.heap.size->au 237 #[aB c.1.1 c.1.2.1 c.1.2.2 c.2.1.1 c.2.2.length c.2.1.2,aB y.1.1 y.1.2.1 y.1.2.2 y.2.1.1 y.2.2.length y.2.1.2] d λe w'=>e=aw (ae (yM (n+1) c (m+1) y))/\ap d w':=λd P Q R=>ih c (m+1) y B d P Q R;have D:=av J;clear J ih;have F:=av t;have G:=av v;clear t v;generalize yM (n+1) c (m+1) y=r at*;generalize c.2.2.length=Y at*;generalize y.2.2.length=yl at*;have ab:(0:Int)<=(k:Int):=by omega
   have ad:(k:Int)<(len:Int):=by omega
   have S:B<=wr.heap.size:=aG o f.size;have O:=av (D wr.drew (F.below (aH _ _).drew) (G.below (aH _ _).drew) S);have aj:g<wr.heap.size:=by omega
   have ak:h<wr.heap.size:=by omega
   clear D F G;go_wp2_with fail
   go_region_held3 (λw'=>w'.cell? ⟨g,po+k*4,none⟩=some (ae c.1.1)/\w'.cell? ⟨g,po+k*4+1,none⟩=some (ae c.1.2.1)/\w'.cell? ⟨g,po+k*4+2,none⟩=some (ag c.1.2.2)/\w'.cell? ⟨g,po+k*4+3,none⟩=some (af c.2.1.1 Y c.2.1.2)
       /\w'.cell? ⟨h,l+k*4,none⟩=some (ae y.1.1)/\w'.cell? ⟨h,l+k*4+1,none⟩=some (ae y.1.2.1)/\w'.cell? ⟨h,l+k*4+2,none⟩=some (ag y.1.2.2)/\w'.cell? ⟨h,l+k*4+3,none⟩=some (af y.2.1.1 yl y.2.1.2))
    (go_keep) ((go_at_call 237;refine O.mono ?_;rintro e d ⟨rfl,H⟩;have Z:=aC (de H)))
   have I:ap w d:=f.trans ((de H).mono f.size);by_cases j:r=0
   ·have x:Hid (r=0):=j;have W:(r !=0)=false:=by rw[j];rfl
    clear j;go_wp2_with fail;go_roundw
    case rel=>exact⟨k+1,by omega,by go_num,I,by rw[<-z.out,E.out,if_pos x.out];rfl⟩
    case measure=>simp[intOf];omega
   ·have x:Hid (¬r=0):=j;have W:(r !=0)=true:=by simpa using j
    clear j;go_wp2_with fail
    go_ret
    exact⟨jJ (by rw[<-z.out,E.out,if_neg x.out]),I⟩
  ·go_wp2_with fail
   go_ret
   refine⟨jJ ?_,f⟩;rw[<-z.out,ko (by rw[M.out];omega)];rfl
theorem Bz(n m:Nat)(a c:ay)(pc d:Nat)(w:ah):au 244 #[.slice a ([]:List (Tm n)).length pc,.slice c ([]:List (Tm m)).length d] w λe w'=>e=aw (ae (qt (λa b=>yM n a m b) [] []))/\ap w w':=by
 show au 244 #[af a 0 pc,af c 0 d] w λe w'=>e=aw (ae 0)/\ap w w';go_enter func244,ntmps244;go_wp2_with fail
 go_loop [19] (λf=>f=ae 0) (λ_=>0)
 case atStart=>rfl
 case round=>
  obtain rfl:=hrel;go_wp2_with fail
  go_ret
  exact⟨rfl,aH _ _⟩
theorem E5(w:ah)(k b h i:Int)(s g:aq)(a c:ay)(pl f pc d:Nat)(e:¬k=b):au 237 #[aB k h s a pl pc,aB b i g c f d] w λe w'=>e=aw (ae (oU k b))/\ap w w':=by
 have j:(k !=b)=true:=by simpa using e
 clear e;go_enter func237,ntmps237;go_wp2_with (go_at_call 242;refine(vG _ _ _).mono ?_;rintro e w' ⟨rfl,rfl⟩)
 go_ret
 exact⟨rfl,(aW _ _).alloc (by simp) _⟩
theorem tD(w:ah)(k d f:Int)(s c:aq)(a g:ay)(pl i pc h:Nat)(r:Int)(b:k=1\/k=3\/k=5):au 237 #[aB k d s a pl pc,aB k f c g i h] w λe w'=>e=aw (ae (if k=1\/k=3\/k=5 then oU d f else if k=2 then xB s c else if k=4 then r else 0))/\ap w w':=by
 rw[if_pos b];rcases b with rfl|rfl|rfl
 all_goals
  go_enter func237,ntmps237;go_wp2_with (go_at_call 242;refine(vG _ _ _).mono ?_;rintro e w' ⟨rfl,rfl⟩)
  go_ret
  exact⟨rfl,(aW _ _).alloc (by simp) _⟩
theorem IZ(w:ah)(g h:Int)(s b:aq)(a c:ay)(pl f pc d:Nat):au 237 #[aB 2 g s a pl pc,aB 2 h b c f d] w λe w'=>e=aw (ae (xB s b))/\ap w w':=by
 go_enter func237,ntmps237;go_wp2_with (go_at_call 243;refine(Kq _ _ _).mono ?_;rintro e w' ⟨rfl,rfl⟩)
 go_ret
 exact⟨rfl,(aW _ _).alloc (by simp) _⟩
theorem E0(w:ah)(k m n:Int)(s l:aq)(a h:ay)(pl j pc i:Nat)(b:¬k=1)(c:¬k=2)(d:¬k=3)(f:¬k=4)(g:¬k=5):au 237 #[aB k m s a pl pc,aB k n l h j i] w λe w'=>e=aw (ae 0)/\ap w w':=by
 have o:(k==1)=false:=by simpa using b
 have p:(k==2)=false:=by simpa using c
 have q:(k==3)=false:=by simpa using d
 have r:(k==4)=false:=by simpa using f
 have t:(k==5)=false:=by simpa using g
 clear b c d f g;go_enter func237,ntmps237;go_wp2_with fail
 go_ret
 exact⟨rfl,(aW _ _).alloc (by simp) _⟩
theorem I0(w:ah)(j k:Int)(s i:aq)(a b:ay)(pl f pc d:Nat)(r:Int)(c:∀w1:ah,ap w w1->au 244 #[af a pl pc,af b f d] w1 λe w'=>e=aw (ae r)/\ap w1 w'):au 237 #[aB 4 j s a pl pc,aB 4 k i b f d] w λe w'=>e=aw (ae r)/\ap w w':=by
 have g:=av c;clear c;go_enter func237,ntmps237;go_wp2_with fail;refine(g _ ((aW _ _).alloc (by simp) _)).mono ?_;rintro e w' ⟨rfl,h⟩;go_wp2_with fail
 go_ret
 exact⟨rfl,((aW _ _).alloc (by simp) _).trans (h.mono (by simp;omega))⟩
theorem IY(n:Nat):F5 n:=by
 induction n with
 | zero=>intro U h t H g G;exact G.elim
 | succ n ih=>
  intro U h t H g G r w;cases h with
  | zero=>exact r.elim
  | succ h=>
  obtain⟨⟨k,l,i⟩,⟨a,pc⟩,c⟩:=U;obtain⟨⟨z,m,j⟩,⟨f,e⟩,d⟩:=t;obtain⟨⟨M,Y,S,P,E⟩,p⟩:=G;obtain⟨⟨N,Z,T,R,F⟩,q⟩:=r;simp only at M Y S P E p N Z T R F q
  show au 237 #[aB k l i a c.length pc,aB z m j f d.length e] g λo B=>o=aw (ae (if k=z then
   if k=1\/k=3\/k=5 then oU l m else if k=2 then xB i j else if k=4 then if c.length=d.length then qt (λa b=>yM n a h b) c d else oU c.length d.length
   else 0 else oU k z))/\ap g B
  have V:∀s:ah,ap g s->au 244 #[af a c.length pc,af f d.length e] s λo B=>o=aw (ae (if c.length=d.length then qt (λa b=>yM n a h b) c d else oU c.length d.length))/\ap s B:=by
   intro s x;unfold maxLen at E F;by_cases u:c.length=d.length
   ·rw[if_pos u];rcases p with p|⟨aa,po,rfl,O,p⟩
    ·subst p;have X:d=[]:=b9 u.symm;subst X;exact Bz n h a f pc e s
    ·rcases q with q|⟨ab,ad,rfl,Q,q⟩
     ·subst q;have W:c=[]:=b9 u;subst W;exact Bz n h _ f pc e s
     ·have L:=MO n h ih c d c.length rfl u.symm aa po ab ad pc e H s (by omega) O Q (λy t r=>⟨(p y t r).1.below (x.mono w) O,(p y t r).2.below (x.mono w)⟩)
        (λy t r=>⟨(q y t r).1.below (x.mono w) Q,(q y t r).2.below (x.mono w)⟩) (aG w x.size)
      rw[u]at L;rw[u];exact L
   ·rw[if_neg u];refine(MP c.length d.length a f pc e s (by omega) (by omega) (by simp;omega)).mono ?_;rintro o B ⟨rfl,rfl⟩;exact⟨rfl,aH _ _⟩
  generalize (if c.length=d.length then qt (λa b=>yM n a h b) c d else oU c.length d.length)=A at*;clear p q ih P E R F S T w;generalize c.length=pl at*;generalize d.length=v at*;obtain⟨ag,aj⟩:=M;obtain⟨ai,al⟩:=N;by_cases o:k=z
  ·subst o;rw[if_pos rfl];by_cases I:k=1
   ·subst I;exact tD g 1 l m i j a f pl v pc e A (ak rfl)
   by_cases J:k=3
   ·subst J;exact tD g 3 l m i j a f pl v pc e A (am (ak rfl))
   by_cases K:k=5
   ·subst K;exact tD g 5 l m i j a f pl v pc e A (am (am rfl))
   rw[if_neg (by omega)];by_cases C:k=2
   ·subst C;exact IZ g l m i j a f pl v pc e
   rw[if_neg C];by_cases D:k=4
   ·subst D;exact I0 g l m i j a f pl v pc e A V
   rw[if_neg D];exact E0 g k l m i j a f pl v pc e I C J D K
  ·rw[if_neg o];exact E5 g k z l m i j a f pl v pc e o
theorem jT(k b:Int)(s:aq)(a:ay)(l c:Nat)(w:ah):au 234 #[aB k b s a l c] w λe w'=>e=aw (.bool (!(k==6)))/\ap w w':=by
 cases h:k==6
 all_goals
  go_enter func234,ntmps234;go_wp2_with fail
  go_ret
  exact⟨ge (by simp[bne,h]),aW _ _⟩
theorem CU(x:An)(y:An)(B:Nat)(w:ah)(d:GY B w x)(f:GY B w y)(b:B<=w.heap.size)(g:aM x)(h:aM y):au 237 #[dG x.1 x.2,dG y.1 y.2] w λe w'=>∃r,e=aw (ae r)/\Hid ((r==0)=eJ x y)/\ap w w':=by
 refine(IY x.1 x.2 y.1 y.2 B w d f b).mono ?_;rintro e w' ⟨rfl,c⟩;refine⟨_,rfl,?_,c⟩;have a:=CT x.1 x.2 y.1 y.2 g h;unfold Hid eJ;cases hs:aK x.1 x.2 y.1 y.2
 ·rw[hs]at a;simp only[p7,iff_false]at a;simpa using a
 ·rw[hs]at a;simp only[iff_true]at a;simpa using a
theorem KS(b:List An)(base g c B:Nat)(w:ah)(k:Nat)(K:k<4)(m:Nat)(t:Tm (m+1))(y:DQ B w b)(M:In B w (m+1) t)(L:aM ⟨m+1,t⟩)(U:B<=base)(H:nS base g c b w):au 235 #[af (some ⟨g,0,none⟩) 4 c,ae k,aB t.1.1 t.1.2.1 t.1.2.2 t.2.1.1 t.2.2.length t.2.1.2] w (fi base g c (vV b k ⟨m+1,t⟩) w):=by
 obtain⟨a,v⟩:∃a,b[k]?=some a:=⟨b[k]'(by rw[y.1];exact K),aV _⟩;obtain⟨E,N⟩:=y.2 a (aU v);obtain⟨n,a⟩:=a;cases n with
 | zero=>exact E.elim
 | succ n=>
 have D:Hid (vV b k ⟨m+1,t⟩=if a.1.1=6 then some (b.set k ⟨m+1,t⟩)else if eJ ⟨n+1,a⟩ ⟨m+1,t⟩then some b else none):=by simp only[Hid,vV,v,cm];rfl
 obtain⟨j,l,p,q⟩:=H.cells k _ v;simp only[um,gM,bR]at j l p q;have Z:(0:Int)<=(k:Int):=by omega
 have aa:(k:Int)<4:=by omega
 have A:=av H;have I:=av v;have R:g<w.heap.size:=H.lt.2;clear v H;generalize vV b k ⟨m+1,t⟩=o at*;cases h6:a.1.1==6
 case true=>
  go_enter func235,ntmps235;go_wp2_with fail;refine(jT _ _ _ _ _ _ _).mono ?_;rintro h e ⟨rfl,d⟩;have f:=av d;clear j l p q;have r:Hid (nS base g c b e):=(A.kept (dC w _ none) (by simp)).below d;have W:=λS=>r.free S;obtain⟨⟨t0,t1,t2,t3⟩,_⟩:=F8 d;obtain⟨j,l,p,q⟩:=r.out.cells k _ I;simp only[um,gM,bR]at j l p q;clear d;go_wp2_with fail
  go_ret
  have s:o=some (b.set k ⟨m+1,t⟩):=by rw[D.out,if_pos (by simpa using h6)]
  subst s;exact⟨rfl,my (dm ((aW _ _).trans (f.mono (by simp))) _) (Fg _ _ _ _),λJ h=>by obtain rfl:=aJ h;exact r.put k ⟨m+1,t⟩ (by rw[y.1];exact K)⟩
 case false=>
  go_enter func235,ntmps235;go_wp2_with fail;refine(jT _ _ _ _ _ _ _).mono ?_;rintro h e ⟨rfl,d⟩;clear j l p q;have f:Hid (ap w e):=(aW _ _).trans (d.mono (by simp));have r:Hid (nS base g c b e):=(A.kept (dC w _ none) (by simp)).below d;obtain⟨⟨t0,t1,t2,t3⟩,_⟩:=F8 d;obtain⟨j,l,p,q⟩:=r.out.cells k _ I;simp only[um,gM,bR]at j l p q;have z:Hid (B<=w.heap.size):=by have:=A.lt;unfold Hid;omega
  have P:Hid (w.heap.size<e.heap.size):=by have:=d.size;simp at this;unfold Hid;omega
  have F:Hid (GY B e ⟨n+1,a⟩/\GY B e ⟨m+1,t⟩):=⟨E.below (f.mono z),GY.below (x:=⟨m+1,t⟩) (f.mono z) M⟩;have Q:=av (CU ⟨n+1,a⟩ ⟨m+1,t⟩ B e.drew (F.1.below (aH _ _).drew) (F.2.below (aH _ _).drew) (aG z f.size) N L);clear d M E y N L;go_wp2_with fail
  go_region_held3 (λi=>i.cell? ⟨g,k*4,none⟩=some (ae a.1.1)/\i.cell? ⟨g,k*4+1,none⟩=some (ae a.1.2.1)/\i.cell? ⟨g,k*4+2,none⟩=some (ag a.1.2.2)/\i.cell? ⟨g,k*4+3,none⟩=some (af a.2.1.1 a.2.2.length a.2.1.2)
        /\i.cell? ⟨w.heap.size,0,none⟩=some (ae t.1.1)/\i.cell? ⟨w.heap.size,1,none⟩=some (ae t.1.2.1)/\i.cell? ⟨w.heap.size,2,none⟩=some (ag t.1.2.2)/\i.cell? ⟨w.heap.size,3,none⟩=some (af t.2.1.1 t.2.2.length t.2.1.2))
      (go_keep) ((go_at_call 237;refine Q.mono ?_;rintro h O ⟨T,rfl,G,u⟩;have V:=aC (de u);have X:g<e.heap.size:=bi R f.size;have Y:w.heap.size<e.heap.size:=P.out))
  replace u:=de u;have C:Hid (w.grownBy O (some g)/\nS base g c b O):=⟨dm (f.trans (u.mono f.size)) _,r.below u⟩;have s:o=if eJ ⟨n+1,a⟩ ⟨m+1,t⟩then some b else none:=by rw[D.out,if_neg (by simpa using h6)]
  rw[<-G.out]at s;clear G D;cases h0:T==0
  all_goals
   rw[h0]at s;go_wp2_with fail
   go_ret
   simp only[p7,if_false,cD]at s;subst s
  ·exact⟨rfl,C.1,λJ h=>by cases h⟩
  ·exact⟨rfl,C.1,λJ h=>by obtain rfl:=aJ h;exact C.2⟩
def L0(x:Nd):Bool:= !(x.1.1==5) && !(x.1.1==6)
def kR(n:Nat)(x:Tm n):Bool:=(aI n x).all L0
def aY:(n:Nat)->Tm n->Bool
 | 0,_=>true
 | n+1,x=> !(x.1.1==5) && !(x.1.1==6) && x.2.2.all λy=>aY n y
theorem fR:(n:Nat)->(x:Tm n)->aY n x=kR n x
 | 0,_=>by simp[aY,kR,aI,L0]
 | n+1,x=>by
  have key:∀l:List (Tm n),(l.all λy=>aY n y)=(l.flatMap λy=>aI n y).all L0:=by
   intro l
   induction l with
   | nil=>rfl
   | cons y l ih=>
    have:=fR n y;unfold kR at this;simp only[jx,bM,lA,ih,this]
  show (!(x.1.1==5) && !(x.1.1==6) && x.2.2.all λy=>aY n y)=(L0 (x.1,(x.2.1.1,x.2.2.length,x.2.1.2)) && (x.2.2.flatMap λy=>aI n y).all L0);rw[key];rfl
def PP(n:Nat):Prop:=∀(x:Tm n)(B:Nat)(w:ah),In B w n x->B<=w.heap.size->
 au 132 #[dG n x] w λe w'=>e=aw (.bool (aY n x))/\ap w w'
theorem BM(n:Nat)(ih:PP n)(h I:Int)(s:aq)(a:ay)(pc len:Nat)(p:List (Tm n))(C:Hid (p.length=len))(B:Nat)(w:ah)(g:Hid (p=[]\/∃b o,a=some ⟨b,o,none⟩/\b<B/\∀(i:Nat)(y:Tm n),p[i]?=some y->eh w b (o+i*4) n y/\In B w n y))(M:len<=9223372036854775807)(r:B<=w.heap.size):au 132 #[aB h I s a len pc] w λe w'=>e=aw (.bool (!(h==5) && !(h==6) && p.all λy=>aY n y))/\ap w w':=by
 cases h5:h==5
 case true=>
  go_enter func132,ntmps132;go_wp2_with fail
  go_ret
  exact⟨b8 (by simp),aW _ _⟩
 cases h6:h==6
 case true=>
  go_enter func132,ntmps132;go_wp2_with fail
  go_ret
  exact⟨b8 (by simp),aW _ _⟩
 have v:(!false && !false && p.all λy=>aY n y)=p.all λy=>aY n y:=by simp
 rw[v];clear v;go_enter func132,ntmps132;go_wp2_with fail;go_loopw [16] (λi wr=>∃k:Nat,k<=len/\i=ae k/\ap w wr/\Hid (((p.drop k).all λy=>aY n y)=p.all λy=>aY n y)) (λi _=>len-(intOf i).toNat)
 case atStart=>exact⟨0,by omega,rfl,aW _ _,rfl⟩
 case round=>
  obtain⟨k,J,rfl,d,t⟩:=hrel;by_cases F:k<len
  ·obtain⟨c,l⟩:∃c,p[k]?=some c:=⟨p[k]'(by rw[C.out];exact F),aV _⟩;have u:Hid (((p.drop k).all λy=>aY n y)=(aY n c && (p.drop (k+1)).all λy=>aY n y)):=by
    obtain⟨j,E⟩:=bj.1 l;rw[fq j,E];rfl
   rcases g.out with g|⟨N,po,rfl,G,g⟩
   ·subst g;simp at l
   obtain⟨m,q⟩:=g k c l;replace m:=m.below (d.mono r) G;replace q:=q.below (d.mono r);clear g l;cases n with
   | zero=>exact m.elim
   | succ n=>
   obtain⟨O,P,Q,R⟩:=m;have x:B<=wr.heap.size:=aG r d.size
   have D:Hid (∀f,ap wr f->au 132 #[aB c.1.1 c.1.2.1 c.1.2.2 c.2.1.1 c.2.2.length c.2.1.2] f λe w'=>e=aw (.bool (aY (n+1) c))/\ap f w'):=
    λf j=>ih c B f (q.below (j.mono x)) (aG x j.size)
   clear ih q;generalize c.2.2.length=S at*;generalize aY (n+1) c=H at*;have K:(0:Int)<=(k:Int):=by omega
   have L:(k:Int)<(len:Int):=by omega
   go_wp2_with fail;refine(D _ (aW _ _)).mono ?_;rintro e f ⟨rfl,z⟩;have A:ap w f:=(d.trans ((aW _ _).mono d.size)).trans (z.mono (by have:=d.size;simp;omega));clear z;cases H with
   | true=>
    go_wp2_with fail;go_roundw
    case rel=>exact⟨k+1,by omega,by go_num,A,by rw[<-t.out,u.out];rfl⟩
    case measure=>simp[intOf];omega
   | false=>
    go_wp2_with fail
    go_ret
    exact⟨b8 (by rw[<-t.out,u.out];rfl),A⟩
  ·go_wp2_with fail
   go_ret
   refine⟨b8 ?_,d⟩;rw[<-t.out,ko (by rw[C.out];omega)];rfl
theorem jb(n:Nat):PP n:=by
 induction n with
 | zero=>intro g b f a;exact a.elim
 | succ n ih=>
  intro g b f a i;obtain⟨⟨k,m,l⟩,⟨h,pc⟩,e⟩:=g;obtain⟨⟨_,_,_,j,d⟩,c⟩:=a;simp only at j d c;unfold maxLen at d;exact BM n ih k m l h pc e.length e rfl b f c (by omega) i
def gK:(n:Nat)->Tm n->Int
 | 0,_=>0
 | n+1,x=>if x.1.1=4 then 1+x.2.2.foldl (λm y=>max m (gK n y)) 0 else 0
def ub(n:Nat)(p:List (Tm n))(k:Nat):Int:=(p.take k).foldl (λm y=>max m (gK n y)) 0
theorem Eb(n:Nat)(p:List (Tm n))(k:Nat)(x:Tm n)(b:p[k]?=some x):ub n p (k+1)=max (ub n p k) (gK n x):=by
 obtain⟨c,a⟩:=bj.1 b;unfold ub;rw[lG c,a,nI];rfl
theorem qV{n:Nat}(N:Int):(l:List (Tm n))->(m:Int)->0<=m->m<=N->(∀y∈l,0<=gK n y/\gK n y<=N)->0<=l.foldl (λm y=>max m (gK n y)) m/\l.foldl (λm y=>max m (gK n y)) m<=N
 | [],_,h0,h1,_=>⟨h0,h1⟩
 | y::l,m,h0,h1,h=>by
  have c:=h y (by simp);exact qV N l (max m (gK n y)) (by omega) (by omega) (λb a=>h b (by simp[a]))
theorem kX(l:List (Tm n))(y:Tm n)(c:y∈l):(aI n y).length<=(l.flatMap λy=>aI n y).length:=by
 obtain⟨a,d⟩:=dj c;have b:=GP (λy=>aI n y) l (a+1);rw[Jq _ l a y d,br]at b;omega
theorem ik:(n:Nat)->(x:Tm n)->0<=gK n x/\gK n x<=(aI n x).length
 | 0,_=>by simp[gK]
 | n+1,x=>by
  have e:=qV ((x.2.2.flatMap λy=>aI n y).length:Int) x.2.2 0 (by omega) (by omega) (λy b=>by
   have c:=ik n y;have d:=kX x.2.2 y b
   omega)
  simp only[gK,aI,bv];by_cases a:x.1.1=4
  ·rw[if_pos a];omega
  ·rw[if_neg a];omega
theorem BV(n:Nat)(p:List (Tm n))(k:Nat):0<=ub n p k/\ub n p k<=(p.flatMap λy=>aI n y).length:=
 qV _ (p.take k) 0 (by omega) (by omega) (λy a=>by
  have b:=ik n y;have c:=kX p y (List.mem_of_mem_take a)
  omega)
def PQ(n:Nat):Prop:=∀(x:Tm n)(B:Nat)(w:ah),In B w n x->B<=w.heap.size->(aI n x).length<=2097152->
 au 78 #[dG n x] w λe w'=>e=aw (ae (gK n x))/\ap w w'
theorem Ec(b d:Int)(s:aq)(a:ay)(len pc:Nat)(w:ah)(c:¬b=4):au 78 #[aB b d s a len pc] w λe w'=>e=aw (ae 0)/\ap w w':=by
 have f:(b !=4)=true:=by simpa using c
 clear c;go_enter func78,ntmps78;go_wp2_with fail
 go_ret
 exact⟨rfl,aW _ _⟩
theorem Hn(n:Nat)(ih:PQ n)(P:Int)(s:aq)(a:ay)(pc len:Nat)(p:List (Tm n))(E:Hid (p.length=len))(B:Nat)(w:ah)(h:Hid (p=[]\/∃b o,a=some ⟨b,o,none⟩/\b<B/\∀(i:Nat)(y:Tm n),p[i]?=some y->eh w b (o+i*4) n y/\In B w n y))(T:len<=9223372036854775807)(u:B<=w.heap.size)(O:Hid (1+(p.flatMap λy=>aI n y).length<=2097152)):au 78 #[aB 4 P s a len pc] w λe w'=> e=aw (ae (1+p.foldl (λm y=>max m (gK n y)) 0))/\ap w w':=by
 go_enter func78,ntmps78;go_wp2_with fail;go_loopw [3,12] (λt i wr=>∃k:Nat,∃d:Int,k<=len/\i=ae k/\t=ae d/\Hid (d=ub n p k)/\ap w wr) (λ_ i _=>len-(intOf i).toNat)
 case atStart=>exact⟨0,0,by omega,rfl,rfl,by simp[Hid,ub],aW _ _⟩
 case round=>
  obtain⟨k,d,Q,rfl,rfl,v,f⟩:=hrel;have r:=BV n p k;rw[<-v.out]at r;have K:=O.out;have V:0<=d:=r.1;have W:d<=2097152:=by omega
  clear r;by_cases M:k<len
  ·obtain⟨c,j⟩:∃c,p[k]?=some c:=⟨p[k]'(by rw[E.out];exact M),aV _⟩;have I:=av (Eb n p k c j);have J:=kX p c (aU j);have F:(aI n c).length<=2097152:=by omega
   clear J K;rcases h.out with h|⟨U,po,rfl,N,h⟩
   ·subst h;simp at j
   obtain⟨l,q⟩:=h k c j;replace l:=l.below (f.mono u) N;replace q:=q.below (f.mono u);clear h j;cases n with
   | zero=>exact l.elim
   | succ n=>
   obtain⟨X,Y,Z,aa⟩:=l;have A:B<=wr.heap.size:=aG u f.size
   have G:Hid (∀g,ap wr g->au 78 #[aB c.1.1 c.1.2.1 c.1.2.2 c.2.1.1 c.2.2.length c.2.1.2] g λe w'=>e=aw (ae (gK (n+1) c))/\ap g w'):=
    λg z=>ih c B g (q.below (z.mono A)) (aG A z.size) F
   clear ih q F;generalize c.2.2.length=ab at*;generalize gK (n+1) c=x at*;have R:(0:Int)<=(k:Int):=by omega
   have S:(k:Int)<(len:Int):=by omega
   go_wp2_with fail;refine(G _ (aW _ _)).mono ?_;rintro e g ⟨rfl,C⟩;have L:ap w g:=(f.trans ((aW _ _).mono f.size)).trans (C.mono (by have:=f.size;simp;omega));clear C;have D:max d x=if d<x then x else d:=by split<;>omega
   have H:=av D;clear D;go_wp2_with fail;go_roundw
   case rel=>exact⟨k+1,_,by omega,by go_num,rfl,by simp only[Hid];rw[I.out,<-v.out,H.out],L⟩
   case measure=>simp[intOf];omega
  ·go_wp2_with fail
   go_ret
   refine⟨jJ ?_,f⟩;rw[v.out];unfold ub;rw[bI (by rw[E.out];omega)]
theorem Hm(n:Nat):PQ n:=by
 induction n with
 | zero=>intro o i b g;exact g.elim
 | succ n ih=>
  intro o i b g q m;obtain⟨⟨k,e,d⟩,⟨c,pc⟩,a⟩:=o;obtain⟨⟨_,_,_,s,l⟩,j⟩:=g;simp only at s l j;unfold maxLen at l;have r:(aI (n+1) ((k,e,d),(c,pc),a)).length=1+(a.flatMap λh=>aI n h).length:=by simp only[aI,bv];omega
  rw[r]at m;show au 78 #[aB k e d c a.length pc] b λp u=>p=aw (ae (if k=4 then 1+a.foldl (λt h=>max t (gK n h)) 0 else 0))/\ap b u;by_cases f:k=4
  ·subst f;exact Hn n ih e d c pc a.length a rfl i b j (by omega) q m
  ·rw[if_neg f];exact Ec k e d c a.length pc b f
def qD(n:Nat)(p:List (Tm n))(k:Nat):Int:=1+p.length+((p.take k).map λy=>sz n y).sum
theorem FK(n:Nat)(p:List (Tm n))(k:Nat)(x:Tm n)(b:p[k]?=some x):qD n p (k+1)=qD n p k+sz n x:=by
 obtain⟨c,a⟩:=bj.1 b;unfold qD;rw[lG c,a];simp;omega
theorem Jp(n:Nat)(l:List (Tm n)):(l.map λy=>1+sz n y).sum=l.length+(l.map λy=>sz n y).sum:=by
 induction l with
 | nil=>simp
 | cons y l ih=>simp only[bB,dk,bv,ih];omega
theorem JA(n:Nat)(p:List (Tm n))(k:Nat)(a:p.length<=k):qD n p k=1+(p.map λy=>1+sz n y).sum:=by
 unfold qD;rw[bI a,Jp];omega
theorem yy(n:Nat)(p:List (Tm n)):p.length<=(p.flatMap λy=>aI n y).length:=by
 induction p with
 | nil=>simp
 | cons y l ih=>
  have:1<=(aI n y).length:=by cases n<;>simp[aI]
  simp only[bM,br,bv];omega
theorem Dy(n:Nat)(p:List (Tm n))(k:Nat):0<=qD n p k/\qD n p k<=3*(1+(p.flatMap λy=>aI n y).length:Int):=by
 have b:=yy n p;have a:=GP (λy=>aI n y) p k;have key:∀l:List (Tm n),0<=(l.map λy=>sz n y).sum/\(l.map λy=>sz n y).sum<=2*((l.flatMap λy=>aI n y).length:Int):=by
  intro l
  induction l with
  | nil=>exact⟨by simp,by simp⟩
  | cons y l ih=>
   have c:=fJ n y;simp only[bB,dk,bM,br];exact⟨by omega,by omega⟩
 have k:=key (p.take k);unfold qD;exact⟨by omega,by omega⟩
def QW(n:Nat):Prop:=∀(x:Tm n)(B:Nat)(w:ah),In B w n x->B<=w.heap.size->(aI n x).length<=2097152->
 au 79 #[dG n x] w λe w'=>e=aw (ae (sz n x))/\ap w w'
theorem FJ(b d:Int)(s:aq)(a:ay)(len pc:Nat)(w:ah)(c:¬b=4):au 79 #[aB b d s a len pc] w λe w'=>e=aw (ae 0)/\ap w w':=by
 have f:(b !=4)=true:=by simpa using c
 clear c;go_enter func79,ntmps79;go_wp2_with fail
 go_ret
 exact⟨rfl,aW _ _⟩
theorem Jz(n:Nat)(ih:QW n)(M:Int)(s:aq)(a:ay)(pc len:Nat)(p:List (Tm n))(l:Hid (p.length=len))(B:Nat)(w:ah)(g:Hid (p=[]\/∃b o,a=some ⟨b,o,none⟩/\b<B/\∀(i:Nat)(y:Tm n),p[i]?=some y->eh w b (o+i*4) n y/\In B w n y))(v:B<=w.heap.size)(D:Hid (1+(p.flatMap λy=>aI n y).length<=2097152)):au 79 #[aB 4 M s a len pc] w λe w'=> e=aw (ae (1+(p.map λy=>1+sz n y).sum))/\ap w w':=by
 have S:len<=2097152:=by have u:=yy n p;have O:=D.out;rw[<-l.out];omega
 go_enter func79,ntmps79;go_wp2_with fail;go_loopw [3,16] (λt i wr=>∃k:Nat,∃h:Int,k<=len/\i=ae k/\t=ae h/\Hid (h=qD n p k)/\ap w wr) (λ_ i _=>len-(intOf i).toNat)
 case atStart=>exact⟨0,1+len,by omega,rfl,rfl,by simp only[Hid,qD];rw[l.out];simp,aW _ _⟩
 case round=>
  obtain⟨k,h,P,rfl,rfl,x,d⟩:=hrel;have r:=Dy n p k;rw[<-x.out]at r;have I:=D.out;have U:0<=h:=r.1;have V:h<=6291456:=by omega
  clear r;by_cases K:k<len
  ·obtain⟨c,j⟩:∃c,p[k]?=some c:=⟨p[k]'(by rw[l.out];exact K),aV _⟩;have G:=av (FK n p k c j);have H:=kX p c (aU j);have E:(aI n c).length<=2097152:=by omega
   have z:=fJ n c;have ab:0<=sz n c:=z.1;have ad:sz n c<=4194304:=by omega
   clear H I z;rcases g.out with g|⟨T,po,rfl,L,g⟩
   ·subst g;simp at j
   obtain⟨m,q⟩:=g k c j;replace m:=m.below (d.mono v) L;replace q:=q.below (d.mono v);clear g j;cases n with
   | zero=>exact m.elim
   | succ n=>
   obtain⟨W,X,Y,Z⟩:=m;have A:B<=wr.heap.size:=aG v d.size
   have F:Hid (∀f,ap wr f->au 79 #[aB c.1.1 c.1.2.1 c.1.2.2 c.2.1.1 c.2.2.length c.2.1.2] f λe w'=>e=aw (ae (sz (n+1) c))/\ap f w'):=
    λf u=>ih c B f (q.below (u.mono A)) (aG A u.size) E
   clear ih q E;generalize c.2.2.length=aa at*;generalize sz (n+1) c=N at*;have Q:(0:Int)<=(k:Int):=by omega
   have R:(k:Int)<(len:Int):=by omega
   go_wp2_with fail;refine(F _ (aW _ _)).mono ?_;rintro e f ⟨rfl,C⟩;have J:ap w f:=(d.trans ((aW _ _).mono d.size)).trans (C.mono (by have:=d.size;simp;omega));clear C;go_wp2_with fail;go_roundw
   case rel=>exact⟨k+1,h+N,by omega,by go_num,by go_num,by simp only[Hid];rw[G.out,<-x.out],J⟩
   case measure=>simp[intOf];omega
  ·go_wp2_with fail
   go_ret
   refine⟨jJ ?_,d⟩;rw[x.out,JA n p k (by rw[l.out];omega)]
theorem zv(n:Nat):QW n:=by
 induction n with
 | zero=>intro m i b g;exact g.elim
 | succ n ih=>
  intro m i b g p l;obtain⟨⟨k,e,d⟩,⟨c,pc⟩,a⟩:=m;obtain⟨⟨_,_,_,s,r⟩,j⟩:=g;simp only at s r j;have q:(aI (n+1) ((k,e,d),(c,pc),a)).length=1+(a.flatMap λh=>aI n h).length:=by simp only[aI,bv];omega
  rw[q]at l;show au 79 #[aB k e d c a.length pc] b λo t=>o=aw (ae (if k=4 then 1+(a.map λh=>1+sz n h).sum else 0))/\ap b t;by_cases f:k=4
  ·subst f;exact Jz n ih e d c pc a.length a rfl i b j p l
  ·rw[if_neg f];exact FJ k e d c a.length pc b f
theorem Dv(w:ah)(k g:Int)(s:aq)(a:ay)(l c:Nat)(j:Bool)(d n:Int)(D:Hid (∀w1,ap w w1->au 77 #[aB k g s a l c] w1 λe w'=>e=aw (.bool j)/\ap w1 w'))(C:Hid (∀w1,ap w w1->au 78 #[aB k g s a l c] w1 λe w'=>e=aw (ae d)/\ap w1 w'))(E:Hid (∀w1,ap w w1->au 79 #[aB k g s a l c] w1 λe w'=>e=aw (ae n)/\ap w1 w')):au 53 #[aB k g s a l c] w λe w'=>e=aw (ae (if j then if 12<d\/200<n then 2 else 0 else 5))/\ap w w':=by
 generalize A:(if j then if 12<d\/200<n then (2:Int)else 0 else 5)=I;have i:=av A;clear A;go_enter func53,ntmps53;go_wp2_with fail;refine(D _ (aW _ _)).mono ?_;rintro e w1 ⟨rfl,m⟩;have f:Hid (ap w w1/\w.heap.size+1<=w1.heap.size):=⟨(aW _ _).trans (m.mono (by simp)),by have:=m.size;simpa using this⟩;have b:=aC m;simp only[fP]at b;have t:=(b w.heap.size 0 (by omega)).trans (by simp[go_sem]:_=some (Value.int .i64 k));have u:=(b w.heap.size 1 (by omega)).trans (by simp[go_sem]:_=some (Value.int .i64 g));have v:=(b w.heap.size 2 (by omega)).trans (by simp[go_sem]:_=some (Value.string s));have x:=(b w.heap.size 3 (by omega)).trans (by simp[go_sem]:_=some (Value.slice a l c));clear b m;cases j with
 | false=>
  go_wp2_with fail
  go_ret
  exact⟨jJ (by rw[<-i.out];rfl),f.1⟩
 | true=>
  go_wp2_with fail;refine(C _ f.1).mono ?_;rintro e G ⟨rfl,q⟩;have h:Hid (ap w G):=f.1.trans (q.mono f.1.size);have b:=aC q;have F:=f.2;replace t:=(b w.heap.size 0 (by omega)).trans t;replace u:=(b w.heap.size 1 (by omega)).trans u;replace v:=(b w.heap.size 2 (by omega)).trans v;replace x:=(b w.heap.size 3 (by omega)).trans x;clear b q F;by_cases y:12<d
  ·have o:=av y;go_wp2_with fail
   go_ret
   exact⟨jJ (by rw[<-i.out,if_pos trivial,if_pos (ak o.out)]),h⟩
  ·have o:=av y;go_wp2_with fail;refine(E _ h).mono ?_;rintro e H ⟨rfl,z⟩;have r:Hid (ap w H):=h.trans (z.mono h.size);clear z;by_cases B:200<n
   ·have p:=av B;go_wp2_with fail
    go_ret
    exact⟨jJ (by rw[<-i.out,if_pos trivial,if_pos (am p.out)]),r⟩
   ·have p:=av B;go_wp2_with fail
    go_ret
    exact⟨jJ (by rw[<-i.out,if_pos trivial,if_neg (by have:=o.out;have:=p.out;omega)]),r⟩
def xO(n:Nat)(x:Tm n):Int:=if cw n x then if 12<gK n x\/200<sz n x then 2 else 0 else 5
theorem Du(n:Nat)(x:Tm n)(B:Nat)(w:ah)(d:In B w n x)(b:B<=w.heap.size)(f:(aI n x).length<=2097152):au 53 #[dG n x] w λe w'=>e=aw (ae (xO n x))/\ap w w':=by
 cases n with
 | zero=>exact d.elim
 | succ n=>
 exact Dv w x.1.1 x.1.2.1 x.1.2.2 x.2.1.1 x.2.2.length x.2.1.2 (cw (n+1) x) (gK (n+1) x) (sz (n+1) x)
  (λc a=>Ex (n+1) x B c (d.below (a.mono b)) (aG b a.size))
  (λc a=>Hm (n+1) x B c (d.below (a.mono b)) (aG b a.size) f)
  (λc a=>zv (n+1) x B c (d.below (a.mono b)) (aG b a.size) f)
theorem mx:(n:Nat)->(x:Tm n)->cw n x=(aI n x).all cN
 | 0,_=>by simp[cw,aI,cN]
 | n+1,x=>by
  have e:(aI (n+1) x).all cN=(cN (bR n x) && (x.2.2.flatMap λy=>aI n y).all cN):=rfl;rw[e];simp only[cw];cases hg:cN (bR n x)
  ·rfl
  ·rw[eU,eU];by_cases b:x.1.1=4
   ·rw[b];have key:∀l:List (Tm n),(l.all λy=>cw n y)=(l.flatMap λy=>aI n y).all cN:=by
     intro l
     induction l with
     | nil=>rfl
     | cons y l ih=>simp only[jx,bM,lA,ih,mx n y]
    rw[key];simp
   ·have c:x.2.2=[]:=by
      unfold cN at hg;simp only[aT,kj,cU]at hg;rcases hg.2 with a|a
      ·exact(b a).elim
      ·have:¬(0:Int)<(x.2.2.length:Int):=by simpa [bR]using a
       exact b9 (by omega)
    rw[c];simp
def oF:List Nd->List Int->Int->Int
 | x::l,d::ds,m=>oF l ds (mI x d m)
 | _,_,m=>m
theorem BE(g:Int):(l:List Nd)->(b:List Int)->(m:Int)->l.length=b.length->uE g l b m=if l.all cN then (if 12<oF l b m\/200<g then 2 else 0)else 5
 | [],_,_,_=>rfl
 | x::l,[],_,a=>by simp at a
 | x::l,d::b,m,a=>by
  have ih:=BE g l b (mI x d m) (by simpa using a);simp only[uE,oF];by_cases f:cN x=true
  ·have e:(x::l).all cN=l.all cN:=by simp[f]
   rw[if_pos f,ih];by_cases c:l.all cN=true
   ·rw[if_pos c,if_pos (e.trans c)];rfl
   ·rw[if_neg c,if_neg (λa=>c (e.symm.trans a))]
  ·rw[if_neg f,if_neg (λa=>f (cZ.1 a x (by simp)))]
theorem r7:(l r:List Nd)->(a es:List Int)->(m:Int)->l.length=a.length->oF (l++r) (a++es) m=oF r es (oF l a m)
 | [],_,[],_,_,_=>rfl
 | [],_,_::_,_,_,h=>by simp at h
 | _::_,_,[],_,_,h=>by simp at h
 | x::l,r,d::a,es,m,h=>by
  simp only[fL,oF];exact r7 l r a es _ (by simpa using h)
theorem Cf{n:Nat}(c:Int):(p:List (Tm n))->(m e:Int)->p.foldl (λm y=>max m (c+gK n y)) (max m (c+e))=max m (c+p.foldl (λm y=>max m (gK n y)) e)
 | [],_,_=>rfl
 | y::p,m,e=>by
  simp only[gh];have a:max (max m (c+e)) (c+gK n y)=max m (c+max e (gK n y)):=by omega
  rw[a];exact Cf c p m (max e (gK n y))
theorem BT:(n:Nat)->(x:Tm n)->(d m:Int)->(∀a∈aI n x,cN a=true)->d<=m->oF (aI n x) (qy n x d) m=max m (d+gK n x)
 | 0,x,_,_,h,_=>by
  have:=h ((0,0,.empty),(none,0,0)) (by simp[aI]);rcases lh _ this with g|g|g|g|g|⟨g,_⟩<;>simp at g
 | n+1,x,d,m,h,k=>by
  have f:=h (bR n x) (by simp[aI,bR]);have key:∀(p:List (Tm n))(m:Int),(∀y∈p,y∈x.2.2)->d+1<=m->oF (p.flatMap λy=>aI n y) (p.flatMap λy=>qy n y (d+1)) m=p.foldl (λm y=>max m (d+1+gK n y)) m:=by
   intro p
   induction p with
   | nil=>intro m _ _;rfl
   | cons y p ih=>
    intro m l k;simp only[bM,gh];rw[r7 _ _ _ _ _ (kS n y (d+1)).symm,BT n y (d+1) m (λa q=>h a (nw (l y (by simp)) q)) k];exact ih _ (λu t=>l u (by simp[t])) (by omega)
  have o:oF (aI (n+1) x) (qy (n+1) x d) m=oF (x.2.2.flatMap λy=>aI n y) (x.2.2.flatMap λy=>qy n y (d+1)) (mI (bR n x) d m):=rfl;rw[o];simp only[gK];by_cases b:x.1.1=4
  ·rw[if_pos b];have c:mI (bR n x) d m=max m (d+1+0):=by
    unfold mI bR;by_cases j:m<d+1
    ·rw[if_pos ⟨b,j⟩];omega
    ·rw[if_neg (λi=>j i.2)];omega
   rw[c,key x.2.2 _ (λ_ s=>s) (by omega),Cf];omega
  ·rw[if_neg b];have r:x.2.2=[]:=by
    unfold cN at f;simp only[aT,kj,cU]at f;rcases f.2 with e|e
    ·exact(b e).elim
    ·have:¬(0:Int)<(x.2.2.length:Int):=by simpa [bR]using e
     exact b9 (by omega)
   have c:mI (bR n x) d m=m:=Hl _ (λi=>b i.1);rw[r,c];simp only[List.flatMap_nil,oF];omega
theorem gO(n:Nat)(x:Tm n):xO n x=bL n x:=by
 unfold xO bL;rw[BE _ _ _ _ (kS n x 0).symm,<-mx n x];by_cases a:cw n x=true
 ·rw[if_pos a,if_pos a];have d:∀b∈aI n x,cN b=true:=by
   rw[mx n x]at a;exact λb c=>cZ.1 a b c
  have e:=ik n x;rw[BT n x 0 0 d (by omega)];have:max (0:Int) (0+gK n x)=gK n x:=by omega
  rw[this]
 ·rw[if_neg a,if_neg a]
theorem dX(n:Nat)(x:Tm n)(B:Nat)(w:ah)(c:In B w n x)(a:B<=w.heap.size)(b:(aI n x).length<=2097152):au 53 #[dG n x] w λe w'=>e=aw (ae (bL n x))/\ap w w':=by
 rw[<-gO];exact Du n x B w c a b
def CR(n:Nat)(y:Tm n):Bool:=bL n y==0 && (cm ⟨n,y⟩==6 || kR n y)
def gH(n:Nat)(q:List (Tm n)):Bool:=decide (q.length=4) && q.all (CR n)
def fV(B:Nat)(w:ah)(n:Nat)(q:List (Tm n))(a:ay):Prop:=
 q=[]\/∃b o,a=some ⟨b,o,none⟩/\b<B/\∀(d:Nat)(c:Tm n),q[d]?=some c->eh w b (o+d*4) n c/\In B w n c
theorem fV.below{B:Nat}{w w':ah}(d:Below B w w'){n:Nat}{q:List (Tm n)}{a:ay}(k:fV B w n q a):fV B w' n q a:=by
 rcases k with c|⟨b,o,i,e,c⟩
 ·exact ak c
 ·exact am ⟨b,o,i,e,λg h f=>⟨(c g h f).1.below d e,(c g h f).2.below d⟩⟩
theorem rV(f:d->Bool)(q:List d)(k:Nat)(y:d)(b:q[k]?=some y):(q.drop k).all f=(f y && (q.drop (k+1)).all f):=by
 obtain⟨c,a⟩:=bj.1 b;rw[fq c,a];rfl
theorem MN(a:ay)(len pc:Nat)(w:ah)(_hl:len<=9223372036854775807)(b:((len:Int) !=4)=true):au 225 #[af a len pc] w λe w'=>e=aw (.bool false)/\w'=w:=by
 go_enter func225,ntmps225;go_wp2_with fail
 go_ret
 exact⟨rfl,rfl⟩
theorem G4(n:Nat)(q:List (Tm n))(z po pc:Nat)(B:Nat)(w:ah)(L:Hid (q.length=4))(R:z<B)(K:∀(i:Nat)(y:Tm n),q[i]?=some y->eh w z (po+i*4) n y/\In B w n y)(H:∀y∈q,(aI n y).length<=2097152)(C:B<=w.heap.size):au 225 #[af (some ⟨z,po,none⟩) 4 pc] w λe w'=>e=aw (.bool (q.all (CR n)))/\ap w w':=by
 go_enter func225,ntmps225;go_wp2_with fail;go_loopw [10] (λi wr=>∃k:Nat,k<=4/\i=ae k/\ap w wr/\Hid ((q.drop k).all (CR n)=q.all (CR n))) (λi _=>4-(intOf i).toNat)
 case atStart=>exact⟨0,by omega,rfl,aH _ _,rfl⟩
 case round=>
  obtain⟨k,X,rfl,c,l⟩:=hrel;by_cases Q:k<4
  ·obtain⟨a,v⟩:∃a,q[k]?=some a:=⟨q[k]'(by rw[L.out];exact Q),aV _⟩;have s:=av (rV (CR n) q k a v);obtain⟨x,m⟩:=K k a v;have I:=H a (aU v);replace x:=x.below (c.mono C) R;replace m:=m.below (c.mono C);clear K v H;cases n with
   | zero=>exact x.elim
   | succ n=>
   obtain⟨T,U,V,W⟩:=x;have t:B<=wr.heap.size:=aG C c.size
   have F:Hid (∀b,ap wr b->au 53 #[aB a.1.1 a.1.2.1 a.1.2.2 a.2.1.1 a.2.2.length a.2.1.2] b λe w'=>e=aw (ae (bL (n+1) a))/\ap b w'):=
    λb j=>dX (n+1) a B b (m.below (j.mono t)) (aG t j.size) I
   have N:Hid (∀b,ap wr b->au 132 #[aB a.1.1 a.1.2.1 a.1.2.2 a.2.1.1 a.2.2.length a.2.1.2] b λe w'=>e=aw (.bool (aY (n+1) a))/\ap b w'):=
    λb j=>jb (n+1) a B b (m.below (j.mono t)) (aG t j.size)
   have r:Hid (CR (n+1) a=(bL (n+1) a==0 && (a.1.1==6 || aY (n+1) a))):=by unfold Hid CR;rw[fR];rfl
   clear m I;generalize a.2.2.length=ab at*;generalize aY (n+1) a=cl at*;generalize bL (n+1) a=h at*;generalize CR (n+1) a=ok at*;have Y:(0:Int)<=(k:Int):=by omega
   have Z:(k:Int)<(4:Int):=by omega
   have aa:z<wr.heap.size:=by omega
   have E:Hid (∀o,ap wr (wr.alloc o)):=λo=>aW _ _;go_wp2_with fail;refine(F _ (E _)).mono ?_;rintro e b ⟨rfl,u⟩;obtain⟨⟨t0,t1,t2,t3⟩,_⟩:=F8 u;have A:Hid (ap wr b):=(E _).trans (u.mono (by simp));have O:Hid (wr.heap.size<b.heap.size):=by have:=u.size;simp at this;unfold Hid;omega
   clear u T U V W F;by_cases f:h=0
   ·have P:(h !=0)=false:=by simp[f]
    have g:Hid (h=0):=f;clear f;go_wp2_with fail;refine(jT _ _ _ _ _ _ _).mono ?_;rintro e M ⟨rfl,D⟩;obtain⟨t4,t5,t6,t7⟩:=oT O D ⟨t0,t1,t2,t3⟩;have p:Hid (ap wr M):=A.trans (D.mono A.size);clear D t0 t1 t2 t3;cases G:a.1.1==6
    ·simp only[Bool.not_false];go_wp2_with fail;refine(N _ p).mono ?_;rintro e S ⟨rfl,J⟩;have d:ap w S:=c.trans ((p.trans (J.mono p.size)).mono c.size);clear J;cases cl with
     | true=>
      go_wp2_with fail;go_roundw
      case rel=>exact⟨k+1,by omega,by go_num,d,by rw[<-l.out,s.out,r.out,g.out];simp[Hid]⟩
      case measure=>simp[intOf];omega
     | false=>
      go_wp2_with fail
      go_ret
      exact⟨ge (by rw[<-l.out,s.out,r.out,g.out,G];simp),d⟩
    ·simp only[Bool.not_true];have d:ap w M:=c.trans (p.mono c.size);go_wp2_with fail;go_roundw
     case rel=>exact⟨k+1,by omega,by go_num,d,by rw[<-l.out,s.out,r.out,g.out,G];simp[Hid]⟩
     case measure=>simp[intOf];omega
   ·have P:(h !=0)=true:=by simpa using f
    have g:Hid ((h==0)=false):=by simpa [Hid]using f
    have d:ap w b:=c.trans (A.mono c.size);clear f;go_wp2_with fail
    go_ret
    exact⟨ge (by rw[<-l.out,s.out,r.out,g.out];simp),d⟩
  ·go_wp2_with fail
   go_ret
   refine⟨ge ?_,c⟩;rw[<-l.out,ko (by rw[L.out];omega)];rfl
theorem By(n:Nat)(q:List (Tm n))(a:ay)(pc B:Nat)(w:ah)(d:fV B w n q a)(i:q.length<=9223372036854775807)(g:∀y∈q,(aI n y).length<=2097152)(f:B<=w.heap.size):au 225 #[af a q.length pc] w λe w'=>e=aw (.bool (gH n q))/\ap w w':=by
 unfold gH;by_cases c:q.length=4
 ·rcases d with d|⟨b,o,rfl,h,j⟩
  ·rw[d]at c;simp at c
  ·have k:=G4 n q b o pc B w c h j g f;rw[c];simpa using k
 ·refine(MN a q.length pc w i (by simp;omega)).mono ?_;rintro e w' ⟨rfl,rfl⟩;exact⟨by simp[c],aH _ _⟩
def bq:(N:Nat)->(n:Nat)->Tm n->Tm N
 | 0,_,_=>()
 | _+1,0,_=>((0,0,.empty),(none,0),[])
 | N+1,n+1,x=>(x.1,x.2.1,x.2.2.map λy=>bq N n y)
theorem Nz(N n:Nat)(x:Tm (n+1)):gM (N+1) (bq (N+1) (n+1) x)=gM (n+1) x:=by simp[gM,bR,bq]
theorem yz(N n:Nat)(g:n<=N)(x:Tm n)(w:ah)(b o:Nat)(k:eh w b o n x):eh w b o N (bq N n x):=by
 cases n with
 | zero=>exact k.elim
 | succ n=>
  obtain⟨N,rfl⟩:∃a,N=a+1:=⟨N-1,by omega⟩;obtain⟨c,d,e,f⟩:=k;exact⟨c,d,e,by simpa [bq]using f⟩
theorem pP:(N n:Nat)->n<=N->(x:Tm n)->(B:Nat)->(w:ah)->In B w n x->In B w N (bq N n x)
 | _,0,_,_,_,_,k=>k.elim
 | 0,n+1,h,_,_,_,_=>by omega
 | N+1,n+1,h,x,B,w,k=>by
  obtain⟨j,a⟩:=k;refine⟨by simpa [bq]using j,?_⟩;rcases a with a|⟨b,o,e,g,a⟩
  ·exact ak (by simp[bq,a])
  ·refine am ⟨b,o,e,g,λi y d=>?_⟩;simp only[bq,di]at d;obtain⟨c,f,rfl⟩:=cJ.1 d;exact⟨yz N n (by omega) c w b _ (a i c f).1,pP N n (by omega) c B w (a i c f).2⟩
theorem oe:(N n:Nat)->n<=N->(x:Tm (n+1))->aI (N+1) (bq (N+1) (n+1) x)=aI (n+1) x
 | N,0,_,x=>by
  have:∀l:List (Tm 0),(l.map λy=>bq N 0 y).flatMap (λy=>aI N y)=l.flatMap λy=>aI 0 y:=by
   intro l
   induction l with
   | nil=>rfl
   | cons a l ih=>
    simp only[bB,bM,ih];congr 1;cases N with
    | zero=>rfl
    | succ N=>simp[bq,aI]
  simp only[aI,bq,cF,this]
 | 0,n+1,h,_=>by omega
 | N+1,n+1,h,x=>by
  have:∀l:List (Tm (n+1)),(l.map λy=>bq (N+1) (n+1) y).flatMap (λy=>aI (N+1) y)=l.flatMap λy=>aI (n+1) y:=by
   intro l
   induction l with
   | nil=>rfl
   | cons a l ih=>
    simp only[bB,bM,ih];rw[oe N n (by omega) a]
  have b:aI (N+2) (bq (N+2) (n+2) x)=(x.1,(x.2.1.1,(x.2.2.map λy=>bq (N+1) (n+1) y).length,x.2.1.2))::(x.2.2.map λy=>bq (N+1) (n+1) y).flatMap λy=>aI (N+1) y:=rfl;rw[b,this];simp[aI]
def nQ(b:List An):Nat:=b.foldr (λa m=>max a.1 m) 0
theorem A4(b:List An):∀a∈b,a.1<=nQ b:=by
 induction b with
 | nil=>intro a d;cases d
 | cons c b ih=>
  intro a d;simp only[nQ,List.foldr_cons];rcases cr.1 d with rfl|d
  ·omega
  ·have:=ih a d;unfold nQ at this;omega
def DC(b:List An):List (Tm (nQ b)):=b.map λa=>bq (nQ b) a.1 a.2
theorem Mo(b:List An)(i:Nat)(y:Tm (nQ b))(c:(DC b)[i]?=some y):∃a,b[i]?=some a/\a.1<=nQ b/\y=bq (nQ b) a.1 a.2:=by
 simp only[DC,di]at c;obtain⟨a,d,rfl⟩:=cJ.1 c;exact⟨a,d,A4 b a (aU d),rfl⟩
theorem Mp(e:nS base g c b w)(k:∀y∈b,GY B w y)(j:B<=w.heap.size):fV w.heap.size w (nQ b) (DC b) (some ⟨g,0,none⟩):=by
 refine am ⟨g,0,rfl,e.lt.2,λa y m=>?_⟩;obtain⟨d,f,i,rfl⟩:=Mo b a y m;have h:=k d (aU f);refine⟨?_,(pP _ _ i _ _ _ h).mono j⟩;obtain⟨n,o⟩:=d;have l:=e.cells a _ f;cases n with
 | zero=>exact h.elim
 | succ n=>
  rw[cC];exact yz _ _ i o w g (a*4) l
theorem JJ(f:∀y∈b,aM y/\y.1≠0):∀y∈DC b,aM ⟨nQ b,y⟩:=by
 intro y k;obtain⟨m,h⟩:=dj k;obtain⟨e,g,i,rfl⟩:=Mo b m y h;have j:=f e (aU g);obtain⟨n,o⟩:=e;cases n with
 | zero=>exact(j.2 rfl).elim
 | succ n=>
  intro p c;clear h k g f;generalize nQ b=d at*;obtain⟨a,rfl⟩:∃a,d=a+1:=⟨d-1,by simp only at i;omega⟩;have l:=oe a n (by simp only at i;omega) o;simp only at c;rw[l]at c;exact j.1 p c
theorem js{c d:Type}(f:c->d->Bool):(p:List c)->(q:List d)->(x:c)->(y:d)->aO f p q=true->f x y=true->aO f (p++ [x]) (q++ [y])=true
 | [],[],x,y,_,h=>by simp[aO,h]
 | [],_::_,_,_,h,_=>by simp[aO]at h
 | _::_,[],_,_,h,_=>by simp[aO]at h
 | a::p,b::q,x,y,h,k=>by
  simp only[aO,aT,fL]at h ⊢;exact⟨h.1,js f p q x y h.2 k⟩
theorem cX{c d:Type}(f:c->d->Bool):(p:List c)->(q:List d)->aO f p q=true->p.length=q.length
 | [],[],_=>rfl
 | [],_::_,h=>by simp[aO]at h
 | _::_,[],h=>by simp[aO]at h
 | a::p,b::q,h=>by
  simp only[aO,aT]at h;simp[cX f p q h.2]
def zA:An:=⟨1,((0,0,.empty),(none,0),[])⟩
theorem IF(n:Nat):(madeCells #[ae 0,ae 0,ag .empty,af none 0 0] (n*4)).toList=gt (List.replicate n zA):=by
 apply nH;intro b;by_cases e:b<n*4
 ·obtain⟨k,a,f,rfl⟩:∃k a,a<4/\b=k*4+a:=⟨b / 4,b % 4,Nat.mod_lt _ (by decide),by omega⟩;have g:k<n:=by omega
  have c:(gt (List.replicate n zA))[k*4+a]?=(wL (um zA))[a]? :=jk _ k (um zA) (by simp[g]) a f;rw[c];have d:(madeCells #[ae 0,ae 0,ag .empty,af none 0 0] (n*4))[k*4+a]?=some ((#[ae 0,ae 0,ag .empty,af none 0 0]:Array az)[(k*4+a) % 4]!):=by
   simp[madeCells,e]
  rw[nF,d,show (k*4+a) % 4=a by omega];have:a=0\/a=1\/a=2\/a=3:=by omega
  rcases this with rfl|rfl|rfl|rfl<;>rfl
 ·rw[fu (by simp[size_madeCells];omega),fu (by rw[lP];simp;omega)]
def vm(n:Nat)(p:List (Tm n))(len g k:Nat)(l:List (Tm n))(wr:ah):Prop:=
 l.length=k/\nS g g len (l.map (λe=>(⟨n,e⟩:An))++List.replicate (len-k) zA) wr/\(∀a∈l,In wr.heap.size wr n a/\cG (λd=>g<d) n a)/\aO (λc b=>aK n c n b) l (p.take k)=true
theorem vm.step{p:List (Tm n)}{l:List (Tm n)}(j:vm n p len g k l wr)(w:k<len)(x:Tm n)(u:p[k]?=some x)(c:ap wr w1)(y:Tm n)(v:In w1.heap.size w1 n y)(h:cG (λq=>g<q) n y)(s:aK n y n x=true):vm n p len g (k+1) (l++ [y]) (jY w1 g (k*4) (gM n y)):=by
 obtain⟨e,m,b,o⟩:=j;have f:=(m.below c).put k ⟨n,y⟩ (by simp;omega);have i:(l.map (λx=>(⟨n,x⟩:An))++List.replicate (len-k) zA).set k ⟨n,y⟩=(l++ [y]).map (λx=>(⟨n,x⟩:An))++List.replicate (len-(k+1)) zA:=by
  rw[iM _ _ (by simp;omega)];have:len-k=(len-(k+1))+1:=by omega
  rw[this,List.replicate_succ];simp[e]
 rw[i]at f;refine⟨by simp[e],f,?_,?_⟩
 ·intro d a;have t:(jY w1 g (k*4) (gM n y)).heap.size=w1.heap.size:=bK _ _ _ _;rw[t];rcases dv.1 a with a|a
  ·exact⟨In.off (λq r=>bz (by omega) _ _ _ _) (b d a).2 (((b d a).1.below c).mono c.size),(b d a).2⟩
  ·simp only[dP]at a;subst a;exact⟨In.off (λq r=>bz (by omega) _ _ _ _) h v,h⟩
 ·rw[dL,u];exact js _ _ _ _ _ o s
def ii(n:Nat)(p:List (Tm n))(w w':ah)(a:ay)(c:Nat)(l:List (Tm n)):Prop:=
 ap w w'/\l.length=p.length/\l.length<=c/\c<=maxLen/\aO (λa b=>aK n a n b) l p=true/\
 (l=[]\/∃b o,a=some ⟨b,o,none⟩/\(w.heap.size<=b/\o=0/\(∀g,w'.frozen? ⟨b,g,none⟩=false)/\∀d∈l,cG (λe=>e≠b) n d)/\b<w'.heap.size/\∀(f:Nat)(d:Tm n),l[f]?=some d->eh w' b (o+f*4) n d/\In w'.heap.size w' n d/\cG (λe=>w.heap.size<=e) n d)
theorem vm.done{p:List (Tm n)}{l:List (Tm n)}(f:vm n p len w.heap.size k l wr)(u:p.length=len)(j:k=len)(g:ap w wr)(m:len<=maxLen):ii n p w wr (some ⟨w.heap.size,0,none⟩) len l:=by
 obtain⟨t,c,d,e⟩:=f;subst j;rw[bI (by omega)]at e;rw[iu,nN,eF]at c;refine⟨g,by omega,by omega,m,e,am ⟨w.heap.size,0,rfl,⟨aA _,rfl,λr=>c.free r,λb a=>(d b a).2.mono λs o=>by omega⟩,c.lt.2,λq b a=>⟨?_,(d b (aU a)).1,(d b (aU a)).2.mono λs o=>by omega⟩⟩⟩;have h:=c.cells q ⟨n,b⟩ (by simp[a]);have i:=(d b (aU a)).1;cases n with
 | zero=>exact i.elim
 | succ n=>
  rw[cC];exact h
def Qy(n:Nat):Prop:=∀(x:Tm n)(B:Nat)(w:ah),In B w n x->B<=w.heap.size->aM ⟨n,x⟩->
 au 91 #[dG n x] w λe w'=>∃y:Tm n,e=aw (dG n y)/\Hid (ap w w'/\In w'.heap.size w' n y/\cG (λq=>w.heap.size<=q) n y/\aK n y n x=true)
theorem vz{t:aq}(b:(s.toList==t.toList)=true):s=t:=by
 have a:s.toList=t.toList:=by simpa using b
 rw[cE,cE]at a;cases s;cases t;simp only at a;rw[Array.toList_inj.1 a]
theorem bV{x:Tm (n+1)}{y:Tm (m+1)}(c:aK (n+1) x (m+1) y=true):x.1=y.1/\aO (λa b=>aK n a m b) x.2.2 y.2.2=true:=by
 simp only[aK,aT,cU]at c;obtain⟨⟨⟨d,e⟩,f⟩,g⟩:=c;refine⟨?_,g⟩;have h:=vz (s:=x.1.2.2) (t:=y.1.2.2) (by simpa using f);exact iO d (iO e h)
theorem dD{x:Tm (n+1)}{y:Tm (m+1)}(c:x.1=y.1)(k:aO (λa b=>aK n a m b) x.2.2 y.2.2=true):aK (n+1) x (m+1) y=true:=by
 simp only[aK,c,k];simp
theorem ru{c d:Type}(f:c->d->Bool)(g:d->c->Bool):(p:List c)->(q:List d)->(∀a∈p,∀b,f a b=true->g b a=true)->aO f p q=true->aO g q p=true
 | [],[],_,_=>rfl
 | [],_::_,_,h=>by simp[aO]at h
 | _::_,[],_,h=>by simp[aO]at h
 | a::p,b::q,hf,h=>by
  simp only[aO,aT]at h ⊢;exact⟨hf a (by simp) b h.1,ru f g p q (λe i=>hf e (cd _ i)) h.2⟩
theorem dF:(n:Nat)->(x:Tm n)->(m:Nat)->(y:Tm m)->aK n x m y=true->aK m y n x=true
 | 0,_,_,_,h=>by simp[aK]at h
 | _+1,_,0,_,h=>by simp[aK]at h
 | n+1,x,m+1,y,h=>by
  obtain⟨c,d⟩:=bV h;exact dD c.symm (ru _ _ _ _ (λa _ b e=>dF n a m b e) d)
theorem pr{d e i:Type}(f:d->e->Bool)(g:e->i->Bool)(k:d->i->Bool):(p:List d)->(q:List e)->(r:List i)->(∀a∈p,∀b c,f a b=true->g b c=true->k a c=true)->aO f p q=true->aO g q r=true->aO k p r=true
 | [],[],[],_,_,_=>rfl
 | [],[],_::_,_,_,h=>by simp[aO]at h
 | [],_::_,_,_,h,_=>by simp[aO]at h
 | _::_,[],_,_,h,_=>by simp[aO]at h
 | _::_,_::_,[],_,_,h=>by simp[aO]at h
 | a::p,b::q,c::r,hf,h1,h2=>by
  simp only[aO,aT]at h1 h2 ⊢;exact⟨hf a (by simp) b c h1.1 h2.1,pr f g k p q r (λj l=>hf j (cd _ l)) h1.2 h2.2⟩
theorem bW:(n:Nat)->(x:Tm n)->(m:Nat)->(y:Tm m)->(l:Nat)->(d:Tm l)->aK n x m y=true->aK m y l d=true->aK n x l d=true
 | 0,_,_,_,_,_,h,_=>by simp[aK]at h
 | _+1,_,0,_,_,_,h,_=>by simp[aK]at h
 | _+1,_,_+1,_,0,_,_,h=>by simp[aK]at h
 | n+1,x,m+1,y,l+1,d,h,k=>by
  obtain⟨e,f⟩:=bV h;obtain⟨j,o⟩:=bV k;exact dD (e.trans j) (pr _ _ _ _ _ _ (λa _ b c g i=>bW n a m b l c g i) f o)
theorem jr{b:Type}(f:b->b->Bool):(p:List b)->(∀a∈p,f a a=true)->aO f p p=true
 | [],_=>rfl
 | a::p,h=>by
  simp only[aO,aT];exact⟨h a (by simp),jr f p λc d=>h c (cd _ d)⟩
theorem fT:(n:Nat)->(x:Tm n)->aM ⟨n,x⟩->aK n x n x=true
 | 0,_,h=>(dH h).elim
 | n+1,x,h=>dD rfl (jr _ _ λy a=>fT n y (bu n x y h a))
theorem aZ{x:Tm n}:aM ⟨n,x⟩ ↔ cw n x=true:=by
 rw[mx,cZ];exact Iff.rfl
theorem Ni{x:Int×Int×aq}{a b:ay}{l d:Nat}:cN (x,(a,l,c))=cN (x,(b,l,d)):=rfl
theorem tL{c d:Type}(f:c->d->Bool)(g:c->Bool)(k:d->Bool):(p:List c)->(q:List d)->(∀a∈p,∀b,f a b=true->g a=k b)->aO f p q=true->p.all g=q.all k
 | [],[],_,_=>rfl
 | [],_::_,_,h=>by simp[aO]at h
 | _::_,[],_,h=>by simp[aO]at h
 | a::p,b::q,hf,h=>by
  simp only[aO,aT]at h;simp only[jx,hf a (by simp) b h.1,tL f g k p q (λe i=>hf e (cd _ i)) h.2]
theorem jp{c d e:Type}(f:c->d->Bool)(g:c->e)(k:d->e):(p:List c)->(q:List d)->(∀a∈p,∀b,f a b=true->g a=k b)->aO f p q=true->p.map g=q.map k
 | [],[],_,_=>rfl
 | [],_::_,_,h=>by simp[aO]at h
 | _::_,[],_,h=>by simp[aO]at h
 | a::p,b::q,hf,h=>by
  simp only[aO,aT]at h;simp only[bB,hf a (by simp) b h.1,jp f g k p q (λi j=>hf i (cd _ j)) h.2]
theorem vW{b:Type}(g:b->Int):(p:List b)->(i:Int)->p.foldl (λm y=>max m (g y)) i=(p.map g).foldl max i
 | [],_=>rfl
 | a::p,i=>by simp only[gh,bB];exact vW g p _
theorem cH:(n:Nat)->(x:Tm n)->(m:Nat)->(y:Tm m)->aK n x m y=true->aY n x=aY m y
 | 0,_,_,_,h=>by simp[aK]at h
 | _+1,_,0,_,h=>by simp[aK]at h
 | n+1,x,m+1,y,h=>by
  obtain⟨c,d⟩:=bV h;simp only[aY,c];rw[tL _ _ _ _ _ (λa _ b e=>cH n a m b e) d]
theorem j8:(n:Nat)->(x:Tm n)->(m:Nat)->(y:Tm m)->aK n x m y=true->cw n x=cw m y
 | 0,_,_,_,h=>by simp[aK]at h
 | _+1,_,0,_,h=>by simp[aK]at h
 | n+1,x,m+1,y,h=>by
  obtain⟨a,c⟩:=bV h;have e:cN (bR n x)=cN (bR m y):=by
   have g:=cX _ _ _ c;unfold bR;rw[a,g];exact Ni
  simp only[cw,e,a];rw[tL _ _ _ _ _ (λd _ b f=>j8 n d m b f) c]
theorem kY:(n:Nat)->(x:Tm n)->(m:Nat)->(y:Tm m)->aK n x m y=true->sz n x=sz m y
 | 0,_,_,_,h=>by simp[aK]at h
 | _+1,_,0,_,h=>by simp[aK]at h
 | n+1,x,m+1,y,h=>by
  obtain⟨c,d⟩:=bV h;simp only[sz,c];rw[jp _ (λy=>1+sz n y) (λy=>1+sz m y) _ _ (λa _ b e=>by rw[kY n a m b e]) d]
theorem Dc:(n:Nat)->(x:Tm n)->(m:Nat)->(y:Tm m)->aK n x m y=true->gK n x=gK m y
 | 0,_,_,_,h=>by simp[aK]at h
 | _+1,_,0,_,h=>by simp[aK]at h
 | n+1,x,m+1,y,h=>by
  obtain⟨c,d⟩:=bV h;simp only[gK,c];rw[vW (λy=>gK n y),vW (λy=>gK m y),jp _ (λy=>gK n y) (λy=>gK m y) _ _ (λa _ b e=>Dc n a m b e) d]
theorem bP{x:Tm n}{y:Tm m}(a:aK n x m y=true):bL n x=bL m y:=by
 rw[<-gO,<-gO];unfold xO;rw[j8 n x m y a,kY n x m y a,Dc n x m y a]
theorem lp{x:Tm n}{y:Tm m}(a:aK n x m y=true):cm ⟨n,x⟩=cm ⟨m,y⟩:=by
 cases n with
 | zero=>simp[aK]at a
 | succ n=>
  cases m with
  | zero=>simp[aK]at a
  | succ m=>
   have:=(bV a).1;simp only[cm,this]
theorem j0{c d:Type}(f:c->d->Bool):(p:List c)->(q:List d)->aO f p q=true->∀(i:Nat)(a:c)(b:d),p[i]?=some a->q[i]?=some b->f a b=true
 | [],_,_,i,a,b,ha,_=>by simp at ha
 | _::_,[],h,_,_,_,_,_=>by simp[aO]at h
 | a::p,b::q,h,0,a',b',ha,hb=>by
  simp only[aO,aT]at h;simp at ha hb;subst ha hb;exact h.1
 | a::p,b::q,h,i+1,a',b',ha,hb=>by
  simp only[aO,aT]at h;exact j0 f p q h.2 i a' b' (by simpa using ha) (by simpa using hb)
theorem jq{b c:Type}(f:c->b->Bool)(g:b->c):(p:List b)->(∀a∈p,f (g a) a=true)->aO f (p.map g) p=true
 | [],_=>rfl
 | a::p,h=>by
  simp only[bB,aO,aT];exact⟨h a (by simp),jq f g p λd e=>h d (cd _ e)⟩
theorem fS:(N n:Nat)->n<=N->(x:Tm n)->aM ⟨n,x⟩->aK N (bq N n x) n x=true
 | _,0,_,_,h=>(dH h).elim
 | 0,n+1,h,_,_=>by omega
 | N+1,n+1,h,x,hr=>dD rfl (jq _ _ _ λy a=>fS N n (by omega) y (bu n x y hr a))
theorem ew(s:aq)(w:ah)(b:s.size<=2048):au 112 #[ag s] w λe w'=>e=aw (ag s)/\ap w w':=by
 go_enter func112,ntmps112;go_wp2_with (go_at_call 143;refine(Tryz.stringslite_Clone s w (by omega)).mono ?_;rintro e w' ⟨rfl,a⟩)
 go_ret
 exact⟨rfl,a⟩
theorem mw(a:ay)(pc:Nat)(w:ah):au 133 #[af a 0 pc] w λe w'=>e=aw (af none 0 0)/\w'=w:=by
 go_enter func133,ntmps133;go_wp2_with fail
 go_ret
 exact⟨rfl,rfl⟩
theorem rZ(n:Nat)(p:List (Tm n))(len:Nat)(a:w1.ownsRow w.heap.size 54 4 (af (some ⟨w.heap.size,0,none⟩) len len) len (madeCells (Value.agg #[ae 0,ae 0,ag .empty,af none 0 0]).cells (len*4)).toList):vm n p len w.heap.size 0 [] w1:=by
 refine⟨rfl,?_,(λd c=>by cases c),rfl⟩;have b:(madeCells (Value.agg #[ae 0,ae 0,ag .empty,af none 0 0]).cells (len*4)).toList=gt (List.replicate len zA):=IF len;rw[b]at a;unfold nS;simpa using a
theorem zW(n:Nat)(ih:Qy n)(p:List (Tm n))(len:Nat)(L:Hid (p.length=len))(r po pc:Nat)(B:Nat)(w:ah)(am:0<len)(ax:len<=1048576)(W:r<B)(u:∀(i:Nat)(y:Tm n),p[i]?=some y->eh w r (po+i*4) n y/\In B w n y)(M:∀y∈p,aM ⟨n,y⟩)(G:B<=w.heap.size):au 133 #[af (some ⟨r,po,none⟩) len pc] w λe w'=>∃l,e=aw (af (some ⟨w.heap.size,0,none⟩) len len)/\Hid (ii n p w w' (some ⟨w.heap.size,0,none⟩) len l):=by
 obtain⟨X,hit,N,O,P⟩:=bT gN;have ar:((len:Int)==0)=false:=by simp;omega
 go_enter func133,ntmps133;go_wp2_with (at_make;refine lN _ rfl _ _ 52 rfl w.heap.size 54 X _ 4 underlying52 hit N O _ _ _ _ len rfl rfl rfl rfl (by rw[P];omega) (by unfold maxLen;omega) (aA _) ?_;intro Z K f);have E:=av (rZ n p len K);have z:Hid (ap w Z):=⟨f.os,f.tape,f.output,f.size,λk I=>f.block k I (by simp)⟩;clear K f hit N O P;go_wp2_with fail;go_loopw [14] (λi wr=>∃k:Nat,k<=len/\i=ae k/\Hid (ap w wr/\∃l,vm n p len w.heap.size k l wr)) (λi _=>len-(intOf i).toNat)
 case atStart=>exact⟨0,by omega,rfl,z,[],E⟩
 case round=>
  obtain⟨k,I,rfl,C⟩:=hrel;obtain⟨g,l,d⟩:Hid (ap w wr)/\∃l,Hid (vm n p len w.heap.size k l wr):=C.out;clear C;by_cases J:k<len
  ·obtain⟨a,m⟩:∃a,p[k]?=some a:=⟨p[k]'(by rw[L.out];exact J),aV _⟩;obtain⟨o,q⟩:=u k a m;have U:=av m;have D:=av (M a (aU m));replace o:=o.below (g.mono G) W;replace q:=q.below (g.mono G);have V:w.heap.size<wr.heap.size:=d.2.1.lt.2;have H:B<=wr.heap.size:=by omega
   clear u m M E z;cases n with
   | zero=>exact o.elim
   | succ n=>
   obtain⟨aa,ab,ad,ag⟩:=o
   have A:Hid (∀(b:ah),ap wr b->au 91 #[aB a.1.1 a.1.2.1 a.1.2.2 a.2.1.1 a.2.2.length a.2.1.2] b λe w'=>∃y:Tm (n+1),e=aw (dG (n+1) y)/\Hid (ap b w'/\In w'.heap.size w' (n+1) y/\cG (λs=>b.heap.size<=s) (n+1) y/\aK (n+1) y (n+1) a=true)):=
    λb c=>ih a B b (q.below (c.mono H)) (aG H c.size) D
   clear ih q D;generalize a.2.2.length=az at*;have ao:(0:Int)<=(k:Int):=by omega
   have aq:(k:Int)<(len:Int):=by omega
   have ay:r<wr.heap.size:=by omega
   go_wp2_with fail;refine(A _ (aW _ _)).mono ?_;rintro e b ⟨y,rfl,h⟩;have j:Hid (ap wr b):=(aW _ _).trans (h.1.mono (by simp));have T:=av (d.step J a U j y h.2.1 (h.2.2.1.mono λs v=>by simp at v;omega) h.2.2.2);have t:=av (d.2.1.below j);have R:Hid (ap w (jY b w.heap.size (k*4) (gM (n+1) y))):=by
    have c:=g.trans (j.mono (Nat.le_of_lt V));exact⟨c.os,c.tape,c.output,aG c.size (cT (bK _ _ _ _).symm),λs v=>(bz (by omega) _ _ _ _).trans (c.block s v)⟩
   obtain⟨x,Q⟩:∃x,(l.map (λa=>(⟨n+1,a⟩:An))++List.replicate (len-k) zA)[k]?=some x:=⟨_,aV (by simp[d.out.1];omega)⟩;obtain⟨ai,aj,ak,al⟩:=t.out.cells k x Q;have an:=λY=>t.free Y;have F:dG (n+1) y=aB y.1.1 y.1.2.1 y.1.2.2 y.2.1.1 y.2.2.length y.2.1.2:=rfl;rw[F];clear A d g h j t aa ab ad ag Q F;go_wp2_with fail;go_roundw
   case rel=>exact⟨k+1,by omega,by go_num,R,l++ [y],T⟩
   case measure=>simp[intOf];omega
  ·have S:=av (d.done L (by omega) g (by unfold maxLen;omega));clear d u;go_wp2_with fail
   go_ret
   exact⟨l,rfl,S⟩
def Qx(n:Nat):Prop:=∀(p:List (Tm n))(a:ay)(pc B:Nat)(w:ah),(p=[]\/∃b o,a=some ⟨b,o,none⟩/\b<B/\∀(i:Nat)(y:Tm n),p[i]?=some y->eh w b (o+i*4) n y/\In B w n y)->p.length<=1048576->(∀y∈p,aM ⟨n,y⟩)->B<=w.heap.size->
 au 133 #[af a p.length pc] w λe w'=>∃c d l,e=aw (af c p.length d)/\Hid (ii n p w w' c d l)
theorem t8(n:Nat)(ih:Qy n):Qx n:=by
 intro c i pc g d a p q k;rcases a with a|⟨b,o,rfl,m,a⟩
 ·subst a;refine(mw i pc d).mono ?_;rintro e f ⟨rfl,rfl⟩;exact⟨none,0,[],rfl,aH _ _,rfl,aA _,aN _,rfl,ak rfl⟩
 ·by_cases j:c.length=0
  ·have:c=[]:=b9 j;subst this;refine(mw _ pc d).mono ?_;rintro e f ⟨rfl,rfl⟩;exact⟨none,0,[],rfl,aH _ _,rfl,aA _,aN _,rfl,ak rfl⟩
  ·refine(zW n ih c c.length rfl b o pc g d (by omega) p m a q k).mono ?_;rintro e f ⟨l,rfl,h⟩;exact⟨_,_,l,rfl,h⟩
theorem G7(a:Below ((w.alloc p).alloc r).drew.heap.size ((w.alloc p).alloc r).drew w1):ap w w1/\w.heap.size<w1.heap.size/\w.heap.size+1<w1.heap.size:=by
 have b:ap w ((w.alloc p).alloc r).drew:=((aW _ _).alloc (by simp) _).drew;have d:=a.size;have c:((w.alloc p).alloc r).drew.heap.size=w.heap.size+2:=by simp[World.drew]
 exact⟨b.trans (a.mono b.size),by omega,by omega⟩
theorem ib(a:Below B w w1):∀b o,b<B->w1.frozen? ⟨b,o,none⟩=w.frozen? ⟨b,o,none⟩:=λb o c=>a.frozen (p:=⟨b,o,none⟩) c
theorem JI{e:TypeId}(d:Below ((w.alloc (.cells #[v0,v1,v2,v3] t)).alloc (.cells #[f,i,j,l] e)).drew.heap.size ((w.alloc (.cells #[v0,v1,v2,v3] t)).alloc (.cells #[f,i,j,l] e)).drew w'):(ai w' w.heap.size 0 v0/\ai w' w.heap.size 1 v1/\ai w' w.heap.size 2 v2/\ai w' w.heap.size 3 v3)/\ w'.cell? ⟨w.heap.size+1,0,none⟩=some f/\w'.cell? ⟨w.heap.size+1,1,none⟩=some i/\w'.cell? ⟨w.heap.size+1,2,none⟩=some j/\w'.cell? ⟨w.heap.size+1,3,none⟩=some l/\ w'.frozen? ⟨w.heap.size+1,0,none⟩=false/\w'.frozen? ⟨w.heap.size+1,1,none⟩=false/\w'.frozen? ⟨w.heap.size+1,2,none⟩=false/\w'.frozen? ⟨w.heap.size+1,3,none⟩=false:=by
 have a:=λo=>d.cell (p:=⟨w.heap.size,o,none⟩) (by simp[World.drew];try omega);have b:=λo=>d.cell (p:=⟨w.heap.size+1,o,none⟩) (by simp[World.drew];try omega);have c:=λo=>d.frozen (p:=⟨w.heap.size+1,o,none⟩) (by simp[World.drew];try omega);exact⟨⟨(a 0).trans (by simp[go_sem]),(a 1).trans (by simp[go_sem]),(a 2).trans (by simp[go_sem]),(a 3).trans (by simp[go_sem])⟩,(b 0).trans (by simp[go_sem]),(b 1).trans (by simp[go_sem]),(b 2).trans (by simp[go_sem]),(b 3).trans (by simp[go_sem]),(c 0).trans (by simp[go_sem]),(c 1).trans (by simp[go_sem]),(c 2).trans (by simp[go_sem]),(c 3).trans (by simp[go_sem])⟩
theorem DZ(a:q<w1.heap.size)(d:ap w1 w2)(k:ai w1 q 0 f/\ai w1 q 1 i/\ai w1 q 2 j/\ai w1 q 3 l/\ w1.frozen? ⟨q,0,none⟩=false/\w1.frozen? ⟨q,1,none⟩=false/\w1.frozen? ⟨q,2,none⟩=false/\w1.frozen? ⟨q,3,none⟩=false):ai w2 q 0 f/\ai w2 q 1 i/\ai w2 q 2 j/\ai w2 q 3 l/\ w2.frozen? ⟨q,0,none⟩=false/\w2.frozen? ⟨q,1,none⟩=false/\w2.frozen? ⟨q,2,none⟩=false/\w2.frozen? ⟨q,3,none⟩=false:=by
 obtain⟨e,g,h,m,d0,d1,d2,d3⟩:=k;have b:=aC d;have c:=ib d;exact⟨(b _ _ a).trans e,(b _ _ a).trans g,(b _ _ a).trans h,(b _ _ a).trans m,(c _ _ a).trans d0,(c _ _ a).trans d1,(c _ _ a).trans d2,(c _ _ a).trans d3⟩
theorem ii.box{p:List (Tm n)}{a:ay}{l:List (Tm n)}(r:ii n p w1 w2 a c l)(h:ap w w1)(f:w.heap.size+1<w1.heap.size)(v0 v1 v2 v3:az):ii n p w (dl w2 (w.heap.size+1) 0 v0 v1 v2 v3) a c l:=by
 obtain⟨s,t,u,v,x,d⟩:=r;have e:=h.trans (s.mono h.size);have F:=h.size;refine⟨⟨e.os,e.tape,e.output,aG e.size (cT (bK _ _ _ _).symm),λj f=>(bz (by omega) _ _ _ _).trans (e.block j f)⟩,t,u,v,x,?_⟩;rcases d with d|⟨b,o,q,i,y,d⟩
 ·exact ak d
 ·refine am ⟨b,o,q,⟨by omega,i.2.1,λB=>?_,i.2.2.2⟩,by rw[bK];exact y,λA E z=>?_⟩
  ·have k:=i.2.2.1 B;unfold World.frozen? at k ⊢;rw[bz (w:=w2) (g:=w.heap.size+1) (b:=b) (o:=0) (by omega) v0 v1 v2 v3];exact k
  obtain⟨C,D,m⟩:=d A E z;refine⟨C.block (bz (by omega) _ _ _ _),?_,m.mono λj f=>by omega⟩;rw[bK];exact In.off (λj f=>bz (by omega) _ _ _ _) m D
theorem nd(x:Nd)(a:cN x=true):x.2.2.1<=8:=by
 by_cases b:x.1.1=4
 ·simp[cN,b]at a;omega
 ·have:=(eY x a).2.2.2.2 b;omega
theorem tr(x:Nd)(a:cN x=true):x.1.2.2.size<=8:=by
 by_cases c:x.1.1=2
 ·simp[cN,c,ek,qX]at a;omega
 ·have b:=(eY x a).1 c;have e:x.1.2.2.data.toList=[]:=by rw[cE]at b;exact b
  have:x.1.2.2.size=0:=by
   have d:x.1.2.2.size=x.1.2.2.data.toList.length:=by rw[lw];rfl
   rw[d,e];rfl
  omega
theorem tg(n:Nat)(k g:Int)(s:aq)(a:ay)(len pc:Nat)(p:List (Tm n))(w:ah)(F:s.size<=2048)(m:Hid (∀w1,ap w w1->au 133 #[af a len pc] w1 λe w'=>∃b c l,e=aw (af b len c)/\Hid (ii n p w1 w' b c l))):au 91 #[aB k g s a len pc] w λe w'=>∃b c l,e=aw (aB k g s b len c)/\Hid (ii n p w w' b c l):=by
 go_enter func91,ntmps91;go_wp2_with fail;go_region_held3 (λw'=>w'.cell? ⟨w.heap.size,0,none⟩=some (ae k)/\w'.cell? ⟨w.heap.size,1,none⟩=some (ae g)/\w'.cell? ⟨w.heap.size,2,none⟩=some (ag s)/\w'.cell? ⟨w.heap.size,3,none⟩=some (af a len pc)) (go_keep) ((first|(go_at_call 112;refine(ew s _ F).mono ?_;rintro e w1 ⟨rfl,i⟩;have f:=av (G7 i);have d:=av (JI i);have q:=d.1.1;have r:=d.1.2.1;have t:=d.1.2.2.1;have u:=d.1.2.2.2;clear i)|(go_at_call 133;refine(m _ f.1).mono ?_;rintro e G ⟨b,c,l,rfl,h⟩;have j:=av (DZ f.2.2 h.1 d.2);obtain⟨B,C,D,E,d0,d1,d2,d3⟩:=j.out;obtain⟨x,y,z,A⟩:=oT f.2.1 h.1 d.1)));have o:=av (h.box f.1 f.2.2 (ae k) (ae g) (ag s) (af b len c));clear h f d j q r t u x y z A;go_wp2_with fail;exact aE (v:=aB k g s b len c) (by simp[results,results91,go_sem,B,C,D,E]) rfl ⟨b,c,l,rfl,o⟩
theorem iD(n:Nat):Qy n:=by
 induction n with
 | zero=>intro a m u k;exact k.elim
 | succ n ih=>
  intro a m u k j t;have E:=k;obtain⟨⟨G,H,D,K,J⟩,h⟩:=E;have s:=t (bR n a) (by simp[aI,bR]);have I:a.2.2.length<=8:=nd (bR n a) s;have C:a.1.2.2.size<=2048:=by have:=tr (bR n a) s;simp only[bR]at this;omega
  refine(tg n a.1.1 a.1.2.1 a.1.2.2 a.2.1.1 a.2.2.length a.2.1.2 a.2.2 u C ?_).mono ?_
  ·intro F i;refine t8 n ih a.2.2 a.2.1.1 a.2.1.2 m F ?_ (by omega) (λe d=>bu n a e t d) (aG j i.size);rcases h with h|⟨b,o,g,p,h⟩
   ·exact ak h
   ·exact am ⟨b,o,g,p,λf e d=>⟨(h f e d).1.below (i.mono j) p,(h f e d).2.below (i.mono j)⟩⟩
  ·rintro g L ⟨w,x,l,rfl,v⟩;obtain⟨i,y,z,A,B,c⟩:=v;refine⟨(a.1,(w,x),l),by rw[<-y];rfl,i,⟨⟨G,H,D,z,A⟩,?_⟩,?_,?_⟩
   ·rcases c with c|⟨b,o,g,q,r,c⟩
    ·exact ak c
    ·exact am ⟨b,o,g,r,λf e d=>⟨(c f e d).1,(c f e d).2.1⟩⟩
   ·rcases c with c|⟨b,o,g,q,r,c⟩
    ·exact ak c
    ·exact am ⟨b,o,g,q.1,λf e d=>(c f e d).2.2⟩
   ·simp only[aK];simp[B]
def qF:aq:=⟨#[115,101,108,102]⟩
def A9:aq:=⟨#[97,100,100]⟩
def DF:aq:=⟨#[112,117,116]⟩
def qs(N:Nat)(x:Tm N):Int:=(gM N x).1.2.1
def uX(n:Nat)(p:List (Tm n))(s:aq)(k:Nat):Bool:=
 decide (p.length=1+k) && match p[0]? with
  | some a=>cm ⟨n,a⟩==2 && (gM n a).1.2.2.toList==s.toList
  | none=>false
def da{c d:Type}(f:c->Option d):List c->Option (List d)
 | []=>some []
 | a::p=>(f a).bind λb=>(da f p).map λl=>b::l
def cB(k a:Int)(N:Nat):Tm (N+1):=((k,a,.empty),(none,0),[])
def AY(N:Nat)(a c:Tm N):Bool:=cm ⟨N,a⟩==1 && cm ⟨N,c⟩==1 && qX (qs N a+qs N c) (-1099511627776) 1099511627776
def uP(N:Nat)(a c:Tm N):Option (Tm (N+1)):=if AY N a c then some (cB 1 (qs N a+qs N c) N)else none
def dT(N:Nat)(l:List (Tm N)):Tm (N+1):=((4,0,.empty),(none,0),l)
def vl(m:Nat)(b:List (Tm m))(self:Int):(n:Nat)->Tm n->Option (Tm (m+n))
 | 0,_=>none
 | n+1,x=>
  if x.1.1=5 then (b[x.1.2.1.toNat]?).bind λy=>if cm ⟨m,y⟩=6 then none else some (bq (m+n+1) m y)
  else if x.1.1=6 then none
  else if x.1.1=4 then
   if uX n x.2.2 qF 0 then some (cB 3 self (m+n))
   else if uX n x.2.2 A9 2 then
    (x.2.2[1]?).bind λa=>(x.2.2[2]?).bind λc=>(vl m b self n a).bind λa=>(vl m b self n c).bind λc=>uP (m+n) a c
   else if uX n x.2.2 DF 1 then
    (x.2.2[1]?).bind λa=>if aY n a then some (bq (m+n+1) n a)else none
   else (da (λy=>vl m b self n y) x.2.2).map (dT (m+n))
  else some (bq (m+n+1) (n+1) x)
theorem rU{e g:Type}(f:e->Option g):(p:List e)->(l:List g)->da f p=some l->l.length=p.length/\∀(i:Nat)(a:e)(y:g),p[i]?=some a->l[i]?=some y->f a=some y
 | [],l,b=>by simp[da]at b;subst b;exact⟨rfl,λi a y c=>by simp at c⟩
 | a::p,l,b=>by
  simp only[da]at b;obtain⟨y,n,b⟩:=cv.1 b;obtain⟨r,m,rfl⟩:=cJ.1 b;obtain⟨j,k⟩:=rU f p r m;refine⟨by simp[j],λi h o c d=>?_⟩;cases i with
  | zero=>
   simp at c d;subst c d;exact n
  | succ i=>exact k i h o (by simpa using c) (by simpa using d)
theorem mT{c d:Type}(f:c->Option d):(p:List c)->(i:Nat)->(a:c)->p[i]?=some a->f a=none->da f p=none
 | [],i,a,h,_=>by simp at h
 | b::p,0,a,h,k=>by
  simp at h;subst h;simp[da,k]
 | b::p,i+1,a,h,k=>by
  simp only[da];rw[mT f p i a (by simpa using h) k];simp
theorem xX{b c:Type}(f:b->Option c)(g:b->c):(p:List b)->(∀a∈p,f a=some (g a))->da f p=some (p.map g)
 | [],_=>rfl
 | a::p,h=>by simp[da,h a (by simp),xX f g p λx d=>h x (cd _ d)]
theorem Ar{b c d:Type}(f:b->List d)(g:c->List d)(K:Nat):(p:List b)->(l:List c)->l.length=p.length->(∀(i:Nat)(a:b)(y:c),p[i]?=some a->l[i]?=some y->(g y).length<=K*(f a).length)->(l.flatMap g).length<=K*(p.flatMap f).length
 | [],[],_,_=>by simp
 | [],_::_,h,_=>by simp at h
 | _::_,[],h,_=>by simp at h
 | a::p,y::l,h,k=>by
  have m:=k 0 a y rfl rfl;have n:=Ar f g K p l (by simpa using h) λi a y e j=>k (i+1) a y (by simpa using e) (by simpa using j);simp only[bM,br];rw[Nat.mul_add];omega
theorem pQ:(N n:Nat)->n<=N->(x:Tm n)->(aI N (bq N n x)).length<=(aI n x).length
 | 0,0,_,_=>aA _
 | _+1,0,_,_=>by simp[bq,aI]
 | 0,n+1,h,_=>by omega
 | N+1,n+1,h,x=>by
  have:=Ar (λy=>aI n y) (λy=>aI N y) 1 x.2.2 (x.2.2.map λy=>bq N n y) (by simp) λi a y c b=>by
   simp[c]at b;subst b;rw[Nat.one_mul];exact pQ N n (by omega) a
  simp only[aI,bq,bv];omega
theorem wv{a K:Nat}(b:1<=K):a<=K*a:=Nat.le_mul_of_pos_left a b
theorem CF(f:d->List h)(p:List d)(a:d)(c:a∈p):(f a).length<=(p.flatMap f).length:=by
 induction p with
 | nil=>cases c
 | cons b p ih=>
  simp only[bM,br];rcases cr.1 c with rfl|c
  ·omega
  ·have:=ih c;omega
theorem DE(m:Nat)(b:List (Tm m))(self:Int)(K:Nat)(f:1<=K)(q:∀y∈b,(aI m y).length<=K):(n:Nat)->(x:Tm n)->(o:Tm (m+n))->vl m b self n x=some o->(aI (m+n) o).length<=K*(aI n x).length
 | 0,_,_,d=>by simp[vl]at d
 | n+1,x,o,d=>by
  have one:∀k r,(aI (m+n+1) (cB k r (m+n))).length<=K*(aI (n+1) x).length:=λk r=>by
   have:1*1<=K*(aI (n+1) x).length:=Nat.mul_le_mul f (by simp[aI]);simpa [aI,cB]using this
  have up:∀(y:Tm n),y∈x.2.2->K*(aI n y).length<=K*(aI (n+1) x).length:=λy j=>by
   have:=CF (λy=>aI n y) x.2.2 y j;exact Nat.mul_le_mul_left K (by simp only[aI,bv]at this ⊢;omega)
  simp only[vl]at d;split at d
  ·obtain⟨y,j,d⟩:=cv.1 d;split at d
   ·cases d
   ·obtain rfl:=aJ d;have e:=pQ (m+n+1) m (by omega) y;have g:=q y (aU j);have h:K*1<=K*(aI (n+1) x).length:=Nat.mul_le_mul_left K (by simp[aI]);show (aI (m+n+1) _).length<=_;omega
  ·split at d
   ·cases d
   ·split at d
    ·split at d
     ·obtain rfl:=aJ d;exact one _ _
     ·split at d
      ·obtain⟨a,p,d⟩:=cv.1 d;obtain⟨c,A,d⟩:=cv.1 d;obtain⟨v,z,d⟩:=cv.1 d;obtain⟨w,B,d⟩:=cv.1 d;unfold uP at d;split at d
       ·obtain rfl:=aJ d;exact one _ _
       ·cases d
      ·split at d
       ·obtain⟨a,p,d⟩:=cv.1 d;split at d
        ·obtain rfl:=aJ d;have e:=pQ (m+n+1) n (by omega) a;have g:=up a (aU p);have h:=wv (a:=(aI n a).length) f;show (aI (m+n+1) _).length<=_;omega
        ·cases d
       ·obtain⟨l,u,rfl⟩:=cJ.1 d;obtain⟨e,g⟩:=rU _ _ _ u;have h:=Ar (λy=>aI n y) (λy=>aI (m+n) y) K x.2.2 l e λi a y s t=>DE m b self K f q n a y (g i a y s t);show (aI (m+n+1) (dT (m+n) l)).length<=_;simp only[aI,dT,bv];rw[Nat.mul_add];omega
    ·obtain rfl:=aJ d;have e:=pQ (m+n+1) (n+1) (by omega) x;have h:=wv (a:=(aI (n+1) x).length) f;show (aI (m+n+1) _).length<=_;omega
theorem lq:(n:Nat)->(x:Tm n)->(m:Nat)->(y:Tm m)->aK n x m y=true->(aI n x).length=(aI m y).length
 | 0,_,_,_,h=>by simp[aK]at h
 | _+1,_,0,_,h=>by simp[aK]at h
 | n+1,x,m+1,y,h=>by
  obtain⟨f,e⟩:=bV h;have key:∀(p:List (Tm n))(q:List (Tm m)),aO (λa b=>aK n a m b) p q=true->(p.flatMap λy=>aI n y).length=(q.flatMap λy=>aI m y).length:=by
   intro p
   induction p with
   | nil=>intro q d;cases q with
    | nil=>rfl
    | cons _ _=>simp[aO]at d
   | cons a p ih=>intro q d;cases q with
    | nil=>simp[aO]at d
    | cons c q=>
     simp only[aO,aT]at d;simp only[bM,br];rw[lq n a m c d.1,ih q d.2]
  simp only[aI,bv];rw[key _ _ e]
theorem bU{x:Tm n}:bL n x=0 ↔ cw n x=true/\gK n x<=12/\sz n x<=200:=by
 rw[<-gO];unfold xO;constructor
 ·intro a;split at a
  ·rename_i c;split at a
   ·cases a
   ·rename_i f;exact⟨c,by omega,by omega⟩
  ·cases a
 ·rintro ⟨b,d,e⟩;rw[if_pos b,if_neg (by omega)]
theorem GB:(n:Nat)->(x:Tm n)->aM ⟨n,x⟩->((aI n x).length:Int)<=sz n x+1
 | 0,_,h=>(dH h).elim
 | n+1,x,h=>by
  have c:=eY (bR n x) (h (bR n x) (by simp[aI,bR]));by_cases a:x.1.1=4
  ·have key:∀l:List (Tm n),(∀y∈l,aM ⟨n,y⟩)->((l.flatMap λy=>aI n y).length:Int)<=(l.map λy=>1+sz n y).sum:=by
     intro l
     induction l with
     | nil=>intro _;simp
     | cons y l ih=>
      intro b;have g:=GB n y (b y (by simp));have i:=ih λf e=>b f (cd _ e);simp only[bM,br,bB,dk];omega
   have:=key x.2.2 λy d=>bu n x y h d;simp only[aI,bv,sz,if_pos a];omega
  ·have:x.2.2=[]:=b9 (c.2.2.2.2 a);simp[aI,this,sz,a]
theorem jQ{x:Tm n}(a:bL n x=0):(aI n x).length<=201:=by
 obtain⟨b,_,c⟩:=bU.1 a;have:=GB n x (aZ.2 b);omega
theorem iC{b:List (Tm m)}(a:gH m b=true):b.length=4/\∀y∈b,bL m y=0/\aM ⟨m,y⟩/\(cm ⟨m,y⟩=6\/aY m y=true):=by
 unfold gH at a;simp only[aT,cV,cZ]at a;refine⟨a.1,λy c=>?_⟩;have:=a.2 y c;unfold CR at this;simp only[aT,kj,cU]at this;refine⟨this.1,aZ.2 (bU.1 this.1).1,?_⟩;rw[fR];exact this.2
theorem qZ(e:n<=N)(x:Tm n)(c:aM ⟨n,x⟩):aM ⟨N,bq N n x⟩:=by
 cases n with
 | zero=>exact(dH c).elim
 | succ n=>
  obtain⟨a,rfl⟩:∃a,N=a+1:=⟨N-1,by omega⟩;intro d b;simp only at b;rw[oe a n (by omega) x]at b;exact c d b
theorem wV{x:Tm (N+1)}(c:cN (bR N x)=true)(k:∀y∈x.2.2,aM ⟨N,y⟩):aM ⟨N+1,x⟩:=by
 intro b a;simp only[aI,cr,kt]at a;rcases a with rfl|⟨y,d,a⟩
 ·exact c
 ·exact k y d b a
theorem xo(m:Nat)(b:List (Tm m))(self:Int)(k:1<=self/\self<=99)(i:∀y∈b,aM ⟨m,y⟩):(n:Nat)->(x:Tm n)->aM ⟨n,x⟩->(g:Tm (m+n))->vl m b self n x=some g->aM ⟨m+n,g⟩
 | 0,_,_,_,d=>by simp[vl]at d
 | n+1,x,hr,g,d=>by
  have r:=hr (bR n x) (by simp[aI,bR]);have B:x.2.2.length<=8:=nd (bR n x) r;simp only[vl]at d;split at d
  ·obtain⟨y,e,d⟩:=cv.1 d;split at d
   ·cases d
   ·obtain rfl:=aJ d;exact qZ (N:=m+n+1) (by omega) y (i y (aU e))
  ·split at d
   ·cases d
   ·split at d
    ·split at d
     ·obtain rfl:=aJ d;exact wV (N:=m+n) (by simp[cN,cB,bR,qX,k]) (by intro y e;cases e)
     ·split at d
      ·obtain⟨a,h,d⟩:=cv.1 d;obtain⟨c,z,d⟩:=cv.1 d;obtain⟨u,w,d⟩:=cv.1 d;obtain⟨v,A,d⟩:=cv.1 d;unfold uP at d;split at d
       ·rename_i o;obtain rfl:=aJ d;simp only[AY,aT]at o;exact wV (N:=m+n) (by simp[cN,cB,bR,o.2]) (by intro y e;cases e)
       ·cases d
      ·split at d
       ·obtain⟨a,h,d⟩:=cv.1 d;split at d
        ·obtain rfl:=aJ d;exact qZ (N:=m+n+1) (by omega) a (bu n x a hr (aU h))
        ·cases d
       ·obtain⟨l,t,rfl⟩:=cJ.1 d;obtain⟨p,q⟩:=rU _ _ _ t;refine wV (N:=m+n) ?_ λy e=>?_
        ·have:(l.length:Int)<=8:=by omega
         simp[cN,dT,bR,this]
        ·obtain⟨f,j⟩:=dj e;have s:f<x.2.2.length:=by rw[<-p];exact(bj.1 j).1
         exact xo m b self k i n x.2.2[f] (bu n x _ hr (gi _)) y (q f _ y (aV s) j)
    ·obtain rfl:=aJ d;exact qZ (N:=m+n+1) (by omega) x hr
def GK(a:Int)(bd:Bool)(self:Int):Int:=if a=0 then if bd then if 1<=self/\self<=99 then 0 else 1 else 5 else a
def oR{N:Nat}(E:Int)(o:Option (Tm N)):Option (Tm N):=if E=0 then o.bind λa=>if bL N a=0 then some a else none else none
def GJ{N:Nat}(E:Int)(o:Option (Tm N)):Int:=if E=0 then if o.isSome then 0 else 7 else E
theorem Gv{p:List (Tm n)}(a:p.length≠1+k):uX n p s k=false:=by simp[uX,a]
theorem Pg{p:List (Tm (n+1))}{y:Tm (n+1)}(a:p.length=1+k)(b:p[0]?=some y):uX (n+1) p s k=(y.1.1==2 && y.1.2.2.toList==s.toList):=by
 simp[uX,a,b,cm,gM,bR]
theorem Iv(a:ay)(len pc:Nat)(s:aq)(k:Nat)(w:ah)(f:k<=8)(c:len≠1+k):au 245 #[af a len pc,ag s,ae k] w λe w'=>e=aw (.bool false)/\w'=w:=by
 have d:((len:Int)==1+(k:Int))=false:=by simp;omega
 have b:IntKind.i64.wrap (1+(k:Int))=1+(k:Int):=by rw[IntKind.wrap];simp[IntKind.bits,IntKind.signed];omega
 go_enter func245,ntmps245;go_wp2_with fail
 go_ret
 exact⟨rfl,rfl⟩
theorem Iu(a po len pc:Nat)(s:aq)(k:Nat)(b:Int)(c:aq)(w:ah)(l:len<=8)(j:k<=8)(g:len=1+k)(c0:ai w a po (ae b))(d:ai w a (po+2) (ag c)):au 245 #[af (some ⟨a,po,none⟩) len pc,ag s,ae k] w λe w'=>e=aw (.bool (b==2 && c.toList==s.toList))/\w'=w:=by
 have h:((len:Int)==1+(k:Int))=true:=by simp;omega
 have f:IntKind.i64.wrap (1+(k:Int))=1+(k:Int):=by rw[IntKind.wrap];simp[IntKind.bits,IntKind.signed];omega
 have i:(0:Int)<(len:Int):=by omega
 cases hx:b==2
 ·go_enter func245,ntmps245;go_wp2_with fail
  go_ret
  exact⟨rfl,rfl⟩
 ·go_enter func245,ntmps245;go_wp2_with fail
  go_ret
  exact⟨rfl,rfl⟩
theorem EI(n:Nat)(p:List (Tm n))(a:ay)(pc B:Nat)(s:aq)(k:Nat)(w:ah)(d:fV B w n p a)(m:p.length<=8)(h:k<=8):au 245 #[af a p.length pc,ag s,ae k] w λe w'=>e=aw (.bool (uX n p s k))/\w'=w:=by
 by_cases c:p.length=1+k
 ·rcases d with d|⟨b,o,rfl,u,d⟩
  ·rw[d]at c;simp at c;omega
  ·obtain⟨f,i⟩:∃f,p[0]?=some f:=⟨p[0]'(by omega),aV _⟩;obtain⟨g,t⟩:=d 0 f i;cases n with
   | zero=>exact g.elim
   | succ n=>
    rw[Pg c i];obtain⟨j,q,l,r⟩:=g;exact Iu b o p.length pc s k f.1.1 f.1.2.2 w m h c (by simpa using j) (by simpa using l)
 ·rw[Gv c];exact Iv a p.length pc s k w h c
def kO(N:Nat)(o:Option (Tm N))(w:ah)(e:Ending)(w':ah):Prop:=
 ∃(a:Tm N)(b:Bool),e=aw (ax #[dG N a,.bool b])/\Hid (ap w w'/\In w'.heap.size w' N a/\cG (λd=>w.heap.size<=d) N a/\b=o.isSome/\∀c,o=some c->aK N a N c=true)
def OM(m:Nat)(b:List (Tm m))(self:Int)(n:Nat):Prop:=∀(x:Tm n)(a:ay)(c B:Nat)(w:ah),In B w n x->aM ⟨n,x⟩->fV B w m b a->B<=w.heap.size->
 au 231 #[.agg #[af a 4 c,ae self],dG n x] w (kO (m+n) (vl m b self n x) w)
def OO{N:Nat}(o:Option (Tm N))(w:ah)(e:Ending)(w':ah):Prop:=
 ∃(c:Int)(b:Bool),e=aw (ax #[ae c,.bool b])/\Hid (ap w w'/\b=(o.isSome && o.all λa=>cm ⟨N,a⟩==1)/\∀a,o=some a->c=qs N a)
theorem EX{o:Option (Tm (N+1))}{y:Tm (N+1)}{r:Bool}(f:ap w w2)(d:ap w1 w2/\In w2.heap.size w2 (N+1) y/\cG (λq=>w1.heap.size<=q) (N+1) y/\r=o.isSome/\∀a,o=some a->aK (N+1) y (N+1) a=true)(c:Bool)(g:c=(r && y.1.1==1)):ap w w2/\c=(o.isSome && o.all λa=>cm ⟨N+1,a⟩==1)/\∀a,o=some a->y.1.2.1=qs (N+1) a:=by
 obtain⟨_,_,_,e,b⟩:=d;refine⟨f,?_,λa h=>?_⟩
 ·rw[g,e];cases ho:o with
  | none=>rfl
  | some a=>
   have:=(bV (b a ho)).1;simp[cm,this]
 ·have:=(bV (b a h)).1;simp[qs,gM,bR,this]
theorem JH(b:Below ((w.alloc p).alloc r).heap.size ((w.alloc p).alloc r) w'):ap w w':=by
 have a:ap w ((w.alloc p).alloc r):=(aW _ _).alloc (by simp) _;exact a.trans (b.mono a.size)
theorem ut(N:Nat)(o:Option (Tm (N+1)))(a:ay)(c:Nat)(self:Int)(k l:Int)(m:aq)(xa:ay)(n xc:Nat)(w:ah)(i:Hid (∀w1,ap w w1->au 231 #[.agg #[af a 4 c,ae self],aB k l m xa n xc] w1 (kO (N+1) o w1))):au 250 #[.agg #[af a 4 c,ae self],aB k l m xa n xc] w (OO o w):=by
 go_enter func250,ntmps250;go_wp2_with fail;refine(i _ ((aW _ _).alloc (by simp) _)).mono ?_;rintro s f ⟨d,q,rfl,e⟩;have HB:Hid (ap w f):=JH e.1;have j:dG (N+1) d=aB d.1.1 d.1.2.1 d.1.2.2 d.2.1.1 d.2.2.length d.2.1.2:=rfl;rw[j];clear j i;have h:=λr p=>av (EX HB e r p);clear HB e;have g:Hid (∀o:Obj,ap w f->ap w (f.alloc o).drew):=λo b=>(b.alloc b.size o).drew;cases q
 ·go_wp2_with fail;go_region;go_wp2_with fail
  go_ret2
  have b:=(h false rfl).out;exact⟨_,_,rfl,g _ b.1,b.2⟩
 ·go_wp2_with fail;go_region;go_wp2_with fail
  go_ret2
  have b:=(h _ rfl).out;exact⟨_,_,rfl,g _ b.1,b.2⟩
def PU{N:Nat}(o:Option (Tm N)):Prop:=∀a,o=some a->cm ⟨N,a⟩=1-> -1099511627776<=qs N a/\qs N a<=1099511627776
def xN{N:Nat}(b d:Option (Tm N)):Option (Tm (N+1)):=b.bind λa=>d.bind λc=>uP N a c
theorem N2{a d:Option (Tm N)}(b:(a.isSome && a.all λe=>cm ⟨N,e⟩==1)=false):xN a d=none:=by
 cases a with
 | none=>rfl
 | some f=>
  simp at b;cases d with
  | none=>rfl
  | some c=>simp[xN,uP,AY,b]
theorem Ma{d a:Option (Tm N)}(b:(a.isSome && a.all λe=>cm ⟨N,e⟩==1)=false):xN d a=none:=by
 cases d with
 | none=>rfl
 | some f=>
  cases a with
  | none=>rfl
  | some c=>
   simp at b;simp[xN,uP,AY,b]
theorem Mb{b d:Option (Tm N)}{e v:Int}(i:true=(b.isSome && b.all λa=>cm ⟨N,a⟩==1))(j:true=(d.isSome && d.all λa=>cm ⟨N,a⟩==1))(k:∀a,b=some a->e=qs N a)(l:∀a,d=some a->v=qs N a)(m:PU b)(n:PU d):xN b d=(if -1099511627776<=e+v/\e+v<=1099511627776 then some (cB 1 (e+v) N)else none)/\(-1099511627776<=e/\e<=1099511627776)/\(-1099511627776<=v/\v<=1099511627776):=by
 cases b with
 | none=>simp at i
 | some f=>
  cases d with
  | none=>simp at j
  | some c=>
   have g:cm ⟨N,f⟩=1:=by simpa using i.symm
   have h:cm ⟨N,c⟩=1:=by simpa using j.symm
   rw[k f rfl,l c rfl];refine⟨?_,m f rfl g,n c rfl h⟩;simp[xN,uP,AY,g,h,qX]
theorem jS:dp 0:=by simp[dp]
theorem lY(N:Nat)(k a:Int)(b:dp k)(c:dp a)(B:Nat)(w:ah)(P:aX):In B w (N+1) (cB k a N)/\cG P (N+1) (cB k a N):=
 ⟨⟨⟨b,c,aN _,aN _,aN _⟩,ak rfl⟩,ak rfl⟩
theorem yx(N:Nat)(k a:Int):aK (N+1) (cB k a N) (N+1) (cB k a N)=true:=dD rfl rfl
theorem lu(a:ap w w'):kO (N+1) none w (aw (ax #[aB 0 0 .empty none 0 0,.bool false])) w':=
 ⟨cB 0 0 N,false,rfl,a,(lY N 0 0 jS jS _ _ (λ_=>True)).1,(lY N 0 0 jS jS 0 w _).2,rfl,λc b=>by cases b⟩
theorem zy(d:ap w w')(k a:Int)(b:dp k)(c:dp a):kO (N+1) (some (cB k a N)) w (aw (ax #[aB k a .empty none 0 0,.bool true])) w':=
 ⟨cB k a N,true,rfl,d,(lY N k a b c _ _ (λ_=>True)).1,(lY N k a b c 0 w _).2,rfl,λf e=>by obtain rfl:=aJ e;exact yx N k a⟩
theorem nZ(w:ah)(a b c d:Obj):ap w ((((w.alloc a).alloc b).alloc c).alloc d):=(((aW _ _).alloc (by simp) _).alloc (by simp;omega) _).alloc (by simp;omega) _
def oN(q:Nat)(w:ah):Prop:=(w.cell? ⟨q,0,none⟩=some (ae 0)/\w.cell? ⟨q,1,none⟩=some (ae 0)/\w.cell? ⟨q,2,none⟩=some (ag .empty)/\w.cell? ⟨q,3,none⟩=some (af none 0 0))/\(w.frozen? ⟨q,0,none⟩=false/\w.frozen? ⟨q,1,none⟩=false/\w.frozen? ⟨q,2,none⟩=false/\w.frozen? ⟨q,3,none⟩=false)/\q<w.heap.size
theorem oN.below(e:oN q w)(c:ap w w'):oN q w':=by
 obtain⟨⟨f,g,h,i⟩,⟨f0,f1,f2,f3⟩,d⟩:=e;have a:=λo=>c.cell (p:=⟨q,o,none⟩) d;have b:=λo=>c.frozen (p:=⟨q,o,none⟩) d;exact⟨⟨(a 0).trans f,(a 1).trans g,(a 2).trans h,(a 3).trans i⟩,⟨(b 0).trans f0,(b 1).trans f1,(b 2).trans f2,(b 3).trans f3⟩,bi d c.size⟩
theorem Ez(a:Below ((((w.alloc (.cells #[s0,s1] t1)).alloc (.cells #[f,i,j,l] t2)).alloc (.cells #[y0,y1,y2,u] t3)).alloc (.cells #[ae 0,ae 0,ag .empty,af none 0 0] t4)).heap.size ((((w.alloc (.cells #[s0,s1] t1)).alloc (.cells #[f,i,j,l] t2)).alloc (.cells #[y0,y1,y2,u] t3)).alloc (.cells #[ae 0,ae 0,ag .empty,af none 0 0] t4)) w'):(ai w' w.heap.size 0 s0/\ai w' w.heap.size 1 s1)/\ (w'.cell? ⟨w.heap.size+1+1,0,none⟩=some y0/\w'.cell? ⟨w.heap.size+1+1,1,none⟩=some y1/\w'.cell? ⟨w.heap.size+1+1,2,none⟩=some y2/\w'.cell? ⟨w.heap.size+1+1,3,none⟩=some u)/\oN (w.heap.size+1+1+1) w':=by
 have g:=a.size;simp at g;have e:=λo=>a.cell (p:=⟨w.heap.size,o,none⟩) (by simp;omega);have b:=λo=>a.cell (p:=⟨w.heap.size+1+1,o,none⟩) (by simp;try omega);have d:=λo=>a.cell (p:=⟨w.heap.size+1+1+1,o,none⟩) (by simp);have c:=λo=>a.frozen (p:=⟨w.heap.size+1+1+1,o,none⟩) (by simp)
 exact⟨⟨(e 0).trans (by simp[go_sem]),(e 1).trans (by simp[go_sem])⟩,⟨(b 0).trans (by simp[go_sem]),(b 1).trans (by simp[go_sem]),(b 2).trans (by simp[go_sem]),(b 3).trans (by simp[go_sem])⟩,
  ⟨(d 0).trans (by simp[go_sem]),(d 1).trans (by simp[go_sem]),(d 2).trans (by simp[go_sem]),(d 3).trans (by simp[go_sem])⟩,⟨(c 0).trans (by simp[go_sem]),(c 1).trans (by simp[go_sem]),(c 2).trans (by simp[go_sem]),(c 3).trans (by simp[go_sem])⟩,by omega⟩
theorem dy(a:ap w w')(c:w.heap.size<=q)(v0 v1 v2 v3:az):ap w (dl w' q 0 v0 v1 v2 v3):=
 ⟨a.os,a.tape,a.output,aG a.size (cT (bK _ _ _ _).symm),λk b=>(bz (by omega) _ _ _ _).trans (a.block k b)⟩
theorem Mc(N:Nat)(p q:Option (Tm N))(B:Hid (PU p))(C:Hid (PU q))(a:ay)(c:Nat)(self:Int)(D E:Int)(F:aq)(xa:ay)(G xc:Nat)(y0 y1:Int)(y2:aq)(ya:ay)(yl yc:Nat)(w:ah)(u:Hid (∀w1,ap w w1->au 250 #[.agg #[af a 4 c,ae self],aB D E F xa G xc] w1 (OO p w1)))(x:Hid (∀w1,ap w w1->au 250 #[.agg #[af a 4 c,ae self],aB y0 y1 y2 ya yl yc] w1 (OO q w1))):au 246 #[.agg #[af a 4 c,ae self],aB D E F xa G xc,aB y0 y1 y2 ya yl yc] w (kO (N+1) (xN p q) w):=by
 obtain⟨o,t⟩:∃o,o=xN p q:=⟨_,rfl⟩;rw[<-t];have l:=av t;clear t;go_enter func246,ntmps246;go_wp2_with fail;refine(u _ (nZ _ _ _ _ _)).mono ?_;rintro K O ⟨b,j,rfl,d⟩;obtain⟨⟨L,M⟩,⟨d0,d1,d2,d3⟩,A⟩:=Ez d.1;have r:=av A;have HB:Hid (ap w O):=(nZ _ _ _ _ _).trans (d.1.mono (nZ _ _ _ _ _).size);have m:Hid (j=_/\_):=d.2;clear u d A;cases j
 ·have e:Hid (o=none):=l.trans (N2 m.1.symm);obtain⟨⟨f,g,h,i⟩,⟨f0,f1,f2,f3⟩,_⟩:=r.out;go_wp2_with fail;rw[e.out];exact aE (v:=ax #[aB 0 0 .empty none 0 0,.bool false]) (by simp[results,results246,go_sem,f,g,h,i];rfl) rfl (lu (dy HB (by omega) _ _ _ _))
 ·go_wp2_with fail;refine(x _ HB).mono ?_;rintro K P ⟨v,j,rfl,d⟩;have k:Hid (ap w P):=HB.trans (d.1.mono HB.size);have n:Hid (j=_/\_):=d.2;have H:=av (r.below d.1);obtain⟨⟨f,g,h,i⟩,⟨f0,f1,f2,f3⟩,_⟩:=H;clear x d HB L M d0 d1 d2 d3 r;cases j
  ·have e:Hid (o=none):=l.trans (Ma n.1.symm);go_wp2_with fail;rw[e.out];exact aE (v:=ax #[aB 0 0 .empty none 0 0,.bool false]) (by simp[results,results246,go_sem,f,g,h,i];rfl) rfl (lu (dy k (by omega) _ _ _ _))
  ·obtain⟨es,⟨R,S⟩,T,U⟩:=Mb m.1 n.1 m.2 n.2 B C;have s:Hid (o=if -1099511627776<=b+v/\b+v<=1099511627776 then some (cB 1 (b+v) N)else none):=l.trans es;have Q:IntKind.i64.wrap (b+v)=b+v:=by rw[IntKind.wrap];simp[IntKind.bits,IntKind.signed];omega
   clear l m n es B C;by_cases y:b+v< -1099511627776
   ·have I:decide (b+v< -1099511627776)=true:=by simpa using y
    have e:Hid (o=none):=s.trans (if_neg (by omega));go_wp2_with fail;rw[e.out];exact aE (v:=ax #[aB 0 0 .empty none 0 0,.bool false]) (by simp[results,results246,go_sem,f,g,h,i];rfl) rfl (lu (dy k (by omega) _ _ _ _))
   ·have I:decide (b+v< -1099511627776)=false:=by simpa using y
    by_cases z:1099511627776<b+v
    ·have J:decide (1099511627776<b+v)=true:=by simpa using z
     have e:Hid (o=none):=s.trans (if_neg (by omega));go_wp2_with fail;rw[e.out];exact aE (v:=ax #[aB 0 0 .empty none 0 0,.bool false]) (by simp[results,results246,go_sem,f,g,h,i];rfl) rfl (lu (dy k (by omega) _ _ _ _))
    ·have J:decide (1099511627776<b+v)=false:=by simpa using z
     have e:Hid (o=some (cB 1 (b+v) N)):=s.trans (if_pos (by omega));go_wp2_with fail;rw[e.out];exact aE (v:=ax #[.agg #[ae 1,ae (b+v),ag .empty,af none 0 0],.bool true]) (by simp[results,results246,go_sem,f,g,h,i];rfl) rfl (zy (dy k (by omega) _ _ _ _) 1 (b+v) (by simp[dp]) ⟨by omega,by omega⟩)
def xn{n N:Nat}(f:Tm n->Option (Tm N))(p:List (Tm n)):List (Tm N):=p.map λy=>(f y).getD (bq N 0 ())
def Oq{n N:Nat}(f:Tm n->Option (Tm N))(p:List (Tm n))(k:Nat):Prop:=∀(i:Nat)(y:Tm n),i<k->p[i]?=some y->(f y).isSome=true
theorem Mq{f:Tm n->Option (Tm N)}{p:List (Tm n)}(c:Oq f p k)(h:p.length<=k):da f p=some (xn f p):=by
 refine xX f _ p λb e=>?_;obtain⟨g,a⟩:=dj e;have i:=(bj.1 a).1;have:=c g b (by omega) a;cases d:f b with
 | none=>rw[d]at this;cases this
 | some j=>rfl
theorem Oq.next{f:Tm n->Option (Tm N)}{p:List (Tm n)}{x:Tm n}(d:Oq f p k)(g:p[k]?=some x)(e:true=(f x).isSome):Oq f p (k+1):=by
 intro b h i a;by_cases c:b=k
 ·subst c;rw[g]at a;obtain rfl:=aJ a;exact e.symm
 ·exact d b h (by omega) a
theorem Ob{f:Tm n->Option (Tm N)}{p:List (Tm n)}{x:Tm n}(d:p[k]?=some x)(c:true=(f x).isSome):∃a,(xn f p)[k]?=some a/\f x=some a:=by
 cases b:f x with
 | none=>rw[b]at c;cases c
 | some a=>exact⟨a,by simp[xn,d,b],rfl⟩
theorem JF{P:List (Tm N)}{l:List (Tm N)}(j:vm N P len g k l wr)(v:P.length=len)(p:k=len)(n:ap w wr)(x:len<=8)(q:Nat)(r:w.heap.size<=q)(y:q<g)(v0 v1 v2 v3:az):kO (N+1) (some (dT N P)) w (aw (ax #[.agg #[ae 4,ae 0,ag .empty,af (some ⟨g,0,none⟩) len len],.bool true])) (dl wr q 0 v0 v1 v2 v3):=by
 obtain⟨m,c,e,f⟩:=j;subst p;rw[bI (by omega)]at f;rw[iu,nN,eF]at c;refine⟨((4,0,.empty),(some ⟨g,0,none⟩,k),l),true,?_,dy n r _ _ _ _,?_,?_,rfl,λz t=>?_⟩
 ·simp only[dG,m]
 ·refine⟨⟨by simp[dp],by simp[dp],aN _,by simp only;omega,by unfold maxLen;simp only;omega⟩,am ⟨g,0,rfl,by rw[bK];exact c.lt.2,λh b a=>?_⟩⟩;obtain⟨i,u⟩:=e b (aU a);have o:=c.cells h ⟨N,b⟩ (by simp[a]);refine⟨eh.block (bz (by omega) _ _ _ _) ?_,?_⟩
  ·cases N with
   | zero=>exact i.elim
   | succ N=>
    rw[cC];exact o
  ·rw[bK];exact In.off (P:=λd=>g<d) (λd s=>bz (by omega) _ _ _ _) u i
 ·exact am ⟨g,0,rfl,by omega,λh b a=>(e b (aU a)).2.mono λd s=>by omega⟩
 ·obtain rfl:=aJ t;exact dD rfl f
theorem Mr(f:Tm n->Option (Tm N))(p:List (Tm n)):(xn f p).length=p.length:=by simp[xn]
theorem vm.grow{P:List (Tm N)}{l:List (Tm N)}(e:vm N P len g k l w)(a:ap w w'):vm N P len g k l w':=by
 obtain⟨f,h,b,i⟩:=e;exact⟨f,h.below a,λd c=>⟨((b d c).1.below a).mono a.size,(b d c).2⟩,i⟩
theorem oN.block(d:oN q w)(c:w'.heap[q]?=w.heap[q]?)(j:w.heap.size<=w'.heap.size):oN q w':=by
 obtain⟨⟨e,f,g,h⟩,⟨f0,f1,f2,f3⟩,i⟩:=d;have a:=λo=>bN c o;have b:∀o,w'.frozen? ⟨q,o,none⟩=w.frozen? ⟨q,o,none⟩:=λo=>by simp[World.frozen?,c]
 exact⟨⟨(a 0).trans e,(a 1).trans f,(a 2).trans g,(a 3).trans h⟩,⟨(b 0).trans f0,(b 1).trans f1,(b 2).trans f2,(b 3).trans f3⟩,bi i j⟩
theorem wa(a:w.grownBy w' none):ap w w':=⟨a.os,a.tape,a.output,a.size,λk b=>a.block k b (by simp)⟩
theorem zO(f:((w.alloc (.cells #[s0,s1] t1)).alloc (.cells #[ae 0,ae 0,ag .empty,af none 0 0] t2)).grownBy w' none):ap w w'/\(ai w' w.heap.size 0 s0/\ai w' w.heap.size 1 s1)/\oN (w.heap.size+1) w':=by
 have a:=wa f;have g:=a.size;simp at g;have d:ap w ((w.alloc (.cells #[s0,s1] t1)).alloc (.cells #[ae 0,ae 0,ag .empty,af none 0 0] t2)):=(aW _ _).alloc (by simp) _;have e:=λo=>a.cell (p:=⟨w.heap.size,o,none⟩) (by simp;omega);have c:=λo=>a.cell (p:=⟨w.heap.size+1,o,none⟩) (by simp);have b:=λo=>a.frozen (p:=⟨w.heap.size+1,o,none⟩) (by simp)
 exact⟨d.trans (a.mono d.size),⟨(e 0).trans (by simp[go_sem]),(e 1).trans (by simp[go_sem])⟩,
  ⟨(c 0).trans (by simp[go_sem]),(c 1).trans (by simp[go_sem]),(c 2).trans (by simp[go_sem]),(c 3).trans (by simp[go_sem])⟩,⟨(b 0).trans (by simp[go_sem]),(b 1).trans (by simp[go_sem]),(b 2).trans (by simp[go_sem]),(b 3).trans (by simp[go_sem])⟩,by omega⟩
theorem Dz(m:Nat)(b:List (Tm m))(self:Int)(n:Nat)(ih:Hid (OM m b self n))(p:List (Tm n))(len:Nat)(W:Hid (p.length=len))(pa:ay)(pc:Nat)(a:ay)(c B:Nat)(w:ah)(a2:len<=8)(V:Hid (fV B w n p pa))(a4:Hid (∀y∈p,aM ⟨n,y⟩))(aD:Hid (fV B w m b a))(H:B<=w.heap.size):au 247 #[.agg #[af a 4 c,ae self],af pa len pc] w (kO (m+n+1) ((da (λy=>vl m b self n y) p).map (dT (m+n))) w):=by
 obtain⟨o,T⟩:∃o,o=(da (λy=>vl m b self n y) p).map (dT (m+n)):=⟨_,rfl⟩;rw[<-T];have aq:=av T;clear T;obtain⟨a6,hit,aN,aO,aP⟩:=bT gN;go_enter func247,ntmps247;go_wp2_with (at_make;refine lN _ rfl _ _ 52 rfl _ 54 a6 _ 4 underlying52 hit aN aO _ _ _ _ len rfl rfl rfl rfl (by rw[aP];omega) (by unfold maxLen;omega) (aA _) ?_;intro h aJ S;have t:=av (rZ (m+n) (xn (λy=>vl m b self n y) p) len aJ);have aX:=av (wa S);have aw:=av (zO S);clear aJ S hit aN aO aP);have es:((w.alloc (.cells #[af a 4 c,ae self] 313)).alloc (.cells #[ae 0,ae 0,ag ⟨#[]⟩,af none 0 0] 54)).heap.size=w.heap.size+1+1:=by simp
 rw[es]at t;clear es aX;obtain⟨aF,aH,D⟩:=aw.out
 have an:Hid (ap w h/\(ai h w.heap.size 0 (af a 4 c)/\ai h w.heap.size 1 (ae self))/\oN (w.heap.size+1) h/\Oq (λy=>vl m b self n y) p 0/\∃l,vm (m+n) (xn (λy=>vl m b self n y) p) len (w.heap.size+1+1) 0 l h):=
  ⟨aF,aH,D,λs y bn _=>by omega,[],t.out⟩
 clear aw t aF aH D;go_wp2_with fail;go_loopw [16] (λs wr=>∃k:Nat,k<=len/\s=ae k/\Hid (ap w wr/\(wr.cell? ⟨w.heap.size,0,none⟩=some (af a 4 c)/\wr.cell? ⟨w.heap.size,1,none⟩=some (ae self))/\oN (w.heap.size+1) wr/\Oq (λy=>vl m b self n y) p k/\∃l,vm (m+n) (xn (λy=>vl m b self n y) p) len (w.heap.size+1+1) k l wr)) (λs _=>len-(intOf s).toNat)
 case atStart=>exact⟨0,by omega,rfl,an.out⟩
 case round=>
  obtain⟨k,bo,rfl,ar⟩:=hrel;clear an;obtain⟨i,⟨Z,aa⟩,G,x,l,j⟩:Hid (ap w wr)/\(ai wr w.heap.size 0 (af a 4 c)/\ai wr w.heap.size 1 (ae self))/\Hid (oN (w.heap.size+1) wr)/\Hid (Oq (λy=>vl m b self n y) p k)/\∃l,Hid (vm (m+n) (xn (λy=>vl m b self n y) p) len (w.heap.size+1+1) k l wr):=ar.out;clear ar;by_cases aI:k<len
  ·obtain⟨d,u⟩:∃d,p[k]?=some d:=⟨p[k]'(by rw[W.out];exact aI),aV _⟩;obtain⟨E,po,rfl,a3,aK⟩:∃E po,pa=some ⟨E,po,none⟩/\E<B/\∀(s:Nat)(y:Tm n),p[s]?=some y->eh w E (po+s*4) n y/\In B w n y:=by
    rcases V.out with P|P
    ·rw[P]at u;simp at u
    ·exact P
   obtain⟨I,J⟩:=aK k d u;have N:=av u;have aZ:=av (a4.out d (aU u));replace I:=I.below (i.out.mono H) a3;replace J:=J.below (i.out.mono H);have Q:B<=wr.heap.size:=aG H i.out.size
   have F:Hid (∀h,ap wr h->au 231 #[.agg #[af a 4 c,ae self],dG n d] h (kO (m+n) (vl m b self n d) h)):=
    λh g=>ih.out d a c B h (J.below (g.mono Q)) aZ.out ((aD.out.below (i.out.mono H)).below (g.mono Q)) (aG Q g.size)
   obtain⟨Y,U⟩:∃Y,Y=vl m b self n d:=⟨_,rfl⟩;rw[<-U]at F;have L:=av U;clear aK u V U J;cases n with
   | zero=>exact I.elim
   | succ n=>
   obtain⟨bd,be,bf,bg⟩:=I;have A:dG (n+1) d=aB d.1.1 d.1.2.1 d.1.2.2 d.2.1.1 d.2.2.length d.2.1.2:=rfl;rw[A]at F;clear A;generalize d.2.2.length=bs at*;have bp:(0:Int)<=(k:Int):=by omega
   have bq:(k:Int)<(len:Int):=by omega
   have br:E<wr.heap.size:=by omega
   have aL:w.heap.size<wr.heap.size:=by have:=G.out.2.2;omega
   go_wp2_with fail;refine(F.out _ (aW _ _)).mono ?_;rintro bl e ⟨y,a8,rfl,q⟩;have r:Hid (ap wr e):=(aW _ _).trans (q.out.1.mono (by simp));have az:Hid (ap w e):=i.out.trans (r.out.mono i.out.size);have O:=av (G.out.below r.out);replace Z:=(aC r.out _ _ aL).trans Z;replace aa:=(aC r.out _ _ aL).trans aa;have A:dG (m+(n+1)) y=aB y.1.1 y.1.2.1 y.1.2.2 y.2.1.1 y.2.2.length y.2.1.2:=rfl;rw[A];clear F bd be bf bg G A;cases a8
   ·have K:Hid (o=none):=by
      have g:vl m b self (n+1) d=none:=by
       have:=q.out.2.2.2.1;rw[<-L.out];cases Y with
       | none=>rfl
       | some ab=>cases this
      show o=none;rw[aq.out,mT _ p k d N.out g];rfl
    obtain⟨⟨ad,aj,ak,al⟩,⟨f0,f1,f2,f3⟩,aR⟩:=O.out;clear q j x;go_wp2_with fail;rw[K.out];exact aE (v:=ax #[aB 0 0 .empty none 0 0,.bool false]) (by simp[results,results247,go_sem,ad,aj,ak,al,aR];rfl) rfl (lu ((dy az.out (by omega) _ _ _ _).alloc (by rw[bK];omega) _))
   ·have R:true=(vl m b self (n+1) d).isSome:=by rw[<-L.out];exact q.out.2.2.2.1
    obtain⟨ab,D,aQ⟩:=Ob (f:=λy=>vl m b self (n+1) y) N.out R;have ao:=av (x.out.next N.out R);have t:=av (j.out.step aI ab D r.out y q.out.2.1 (q.out.2.2.1.mono λaT X=>by have:=j.out.2.1.lt.2;simp at X;omega) (q.out.2.2.2.2 ab (by rw[L.out];exact aQ)));have z:=av (j.out.2.1.below r.out);have M:Hid (ap w (jY e (w.heap.size+1+1) (k*4) (gM (m+(n+1)) y))):=by
     have g:=az.out;exact⟨g.os,g.tape,g.output,aG g.size (cT (bK _ _ _ _).symm),λaT X=>(bz (by omega) _ _ _ _).trans (g.block aT X)⟩
    have aY:Hid (∀o:Obj,ap w ((jY e (w.heap.size+1+1) (k*4) (gM (m+(n+1)) y)).alloc o)/\(((jY e (w.heap.size+1+1) (k*4) (gM (m+(n+1)) y)).alloc o).cell? ⟨w.heap.size,0,none⟩=some (af a 4 c)/\((jY e (w.heap.size+1+1) (k*4) (gM (m+(n+1)) y)).alloc o).cell? ⟨w.heap.size,1,none⟩=some (ae self))/\oN (w.heap.size+1) ((jY e (w.heap.size+1+1) (k*4) (gM (m+(n+1)) y)).alloc o)/\Oq (λy=>vl m b self (n+1) y) p (k+1)/\∃l,vm (m+(n+1)) (xn (λy=>vl m b self (n+1) y) p) len (w.heap.size+1+1) (k+1) l ((jY e (w.heap.size+1+1) (k*4) (gM (m+(n+1)) y)).alloc o)):=by
     intro o;have C:Below (jY e (w.heap.size+1+1) (k*4) (gM (m+(n+1)) y)).heap.size (jY e (w.heap.size+1+1) (k*4) (gM (m+(n+1)) y)) ((jY e (w.heap.size+1+1) (k*4) (gM (m+(n+1)) y)).alloc o):=aW _ _;have a5:(jY e (w.heap.size+1+1) (k*4) (gM (m+(n+1)) y)).heap.size=e.heap.size:=bK _ _ _ _;have a1:=z.out.lt.2;refine⟨M.out.trans (C.mono M.out.size),⟨?_,?_⟩,?_,ao.out,l++ [y],t.out.grow C⟩
     ·exact(aC C _ _ (by omega)).trans ((bN (bz (by omega) _ _ _ _) _).trans Z)
     ·exact(aC C _ _ (by omega)).trans ((bN (bz (by omega) _ _ _ _) _).trans aa)
     ·refine oN.below ?_ C;exact O.out.block (bz (by omega) _ _ _ _) (cT a5.symm)
    obtain⟨am,aS⟩:∃am,(l.map (λd=>(⟨m+(n+1),d⟩:An))++List.replicate (len-k) zA)[k]?=some am:=⟨_,aV (by simp[j.out.1];omega)⟩;obtain⟨bh,bi,bj,bk⟩:=z.out.cells k am aS;have bm:=λa7=>z.out.free a7;have a1:w.heap.size+1+1<e.heap.size:=z.out.lt.2;clear q j x r i t ao M z aS O D aQ R;go_wp2_with fail;go_roundw
    case rel=>exact⟨k+1,by omega,by go_num,aY.out _⟩
    case measure=>simp[intOf];omega
  ·obtain rfl:k=len:=by omega
   have K:Hid (o=some (dT (m+n) (xn (λy=>vl m b self n y) p))):=by
    show o=_;rw[aq.out,Mq x.out (by rw[W.out];exact aA _)];rfl
   have a0:=λa9 ba bb bc=>av (JF j.out (by rw[Mr];exact W.out) rfl i.out a2 (w.heap.size+1) (by omega) (by omega) a9 ba bb bc);obtain⟨⟨ad,aj,ak,al⟩,⟨f0,f1,f2,f3⟩,aR⟩:=G.out;clear x j i V aD;go_wp2_with fail;rw[K.out];exact aE (v:=ax #[.agg #[ae 4,ae 0,ag .empty,af (some ⟨w.heap.size+1+1,0,none⟩) k k],.bool true]) (by simp[results,results247,go_sem,ad,aj,ak,al];rfl) rfl (a0 _ _ _ _).out
theorem CA{P:aX}:(N n:Nat)->n<=N->(x:Tm n)->cG P n x->cG P N (bq N n x)
 | _,0,_,_,k=>k.elim
 | 0,n+1,h,_,_=>by omega
 | N+1,n+1,h,x,k=>by
  rcases k with k|⟨b,o,e,d,k⟩
  ·exact ak (by simp[bq,k])
  ·refine am ⟨b,o,e,d,λi y a=>?_⟩;simp only[bq,di]at a;obtain⟨c,f,rfl⟩:=cJ.1 a;exact CA N n (by omega) c (k i c f)
theorem Li(N n:Nat)(x:Tm (n+1)):dG (N+1) (bq (N+1) (n+1) x)=dG (n+1) x:=by simp[dG,bq]
theorem Lh(d:n<=N){x y:Tm (n+1)}(a:aM ⟨n+1,x⟩)(b:aK (n+1) y (n+1) x=true):aK (N+1) (bq (N+1) (n+1) y) (N+1) (bq (N+1) (n+1) x)=true:=by
 have c:aM ⟨n+1,y⟩:=aZ.2 (by rw[j8 _ _ _ _ b];exact aZ.1 a);exact bW _ _ _ _ _ _ (fS (N+1) (n+1) (by omega) y c) (bW _ _ _ _ _ _ b (dF _ _ _ _ (fS (N+1) (n+1) (by omega) x a)))
theorem JM(b:n<=N){x y:Tm (n+1)}(f:aM ⟨n+1,x⟩)(c:ap w w')(d:In w'.heap.size w' (n+1) y)(e:cG (λq=>w.heap.size<=q) (n+1) y)(g:aK (n+1) y (n+1) x=true)(r:Bool):kO (N+1) (if r then some (bq (N+1) (n+1) x)else none) w (aw (ax #[aB y.1.1 y.1.2.1 y.1.2.2 y.2.1.1 y.2.2.length y.2.1.2,.bool r])) w':=by
 refine⟨bq (N+1) (n+1) y,r,by rw[Li];rfl,c,pP _ _ (by omega) _ _ _ d,CA _ _ (by omega) _ e,by cases r<;>rfl,λh a=>?_⟩;cases r with
 | false=>cases a
 | true=>
  obtain rfl:=aJ a;exact Lh b f g
theorem xp{o:Option (Tm (N+1))}{y:Tm (N+1)}{r:Bool}(c:ap w w1)(k:w.heap.size<=q)(m:q<w1.heap.size)(e:ap w1 w2/\In w2.heap.size w2 (N+1) y/\cG (λq=>w1.heap.size<=q) (N+1) y/\r=o.isSome/\∀d,o=some d->aK (N+1) y (N+1) d=true)(v0 v1 v2 v3:az):kO (N+1) o w (aw (ax #[aB y.1.1 y.1.2.1 y.1.2.2 y.2.1.1 y.2.2.length y.2.1.2,.bool r])) (dl w2 q 0 v0 v1 v2 v3):=by
 obtain⟨f,g,a,h,i⟩:=e;have l:=c.size;refine⟨y,r,rfl,dy (c.trans (f.mono l)) k _ _ _ _,?_,a.mono λb j=>by omega,h,i⟩;rw[bK];exact In.off (P:=λb=>w1.heap.size<=b) (λb j=>bz (by omega) _ _ _ _) a g
theorem xq(h:n<=N){x y:Tm (n+1)}{g:ah}(p:aM ⟨n+1,x⟩)(e:ap w w1)(o:w.heap.size<=q)(s:q<w1.heap.size)(k:ap w1 w2/\In w2.heap.size w2 (n+1) y/\cG (λq=>w1.heap.size<=q) (n+1) y/\aK (n+1) y (n+1) x=true)(a:ap w2 g)(r:Bool)(v0 v1 v2 v3:az):kO (N+1) (if r then some (bq (N+1) (n+1) x)else none) w (aw (ax #[aB y.1.1 y.1.2.1 y.1.2.2 y.2.1.1 y.2.2.length y.2.1.2,.bool r])) (dl g q 0 v0 v1 v2 v3):=by
 obtain⟨c,i,d,j⟩:=k;have f:=e.size;have l:=(e.trans (c.mono f)).trans (a.mono (aG f c.size));refine JM h p (dy l o _ _ _ _) ?_ (d.mono λb m=>by omega) j r;rw[bK];exact In.off (P:=λb=>w1.heap.size<=b) (λb m=>bz (by omega) _ _ _ _) d ((i.below a).mono a.size)
theorem A6:ap w ((w.alloc (.cells #[s0,s1] t1)).alloc (.cells #[ae 0,ae 0,ag .empty,af none 0 0] t2))/\oN (w.heap.size+1) ((w.alloc (.cells #[s0,s1] t1)).alloc (.cells #[ae 0,ae 0,ag .empty,af none 0 0] t2)):=by
 have a:=zO (w:=w) (s0:=s0) (s1:=s1) (t1:=t1) (t2:=t2) (w':=(w.alloc (.cells #[s0,s1] t1)).alloc (.cells #[ae 0,ae 0,ag .empty,af none 0 0] t2)) (gT _ _);exact⟨a.1,a.2.2⟩
theorem A7(a:w1=(w.alloc (.cells #[s0,s1] t1)).alloc (.cells #[ae 0,ae 0,ag .empty,af none 0 0] t2)):ap w w1/\oN (w.heap.size+1) w1/\w1.cell? ⟨w.heap.size,0,none⟩=some s0/\w1.cell? ⟨w.heap.size,1,none⟩=some s1:=by
 subst a;have a:=zO (w:=w) (s0:=s0) (s1:=s1) (t1:=t1) (t2:=t2) (w':=(w.alloc (.cells #[s0,s1] t1)).alloc (.cells #[ae 0,ae 0,ag .empty,af none 0 0] t2)) (gT _ _);exact⟨a.1,a.2.2,a.2.1.1,a.2.1.2⟩
theorem Od(N:Nat)(o:Option (Tm (N+1)))(a:ay)(c:Nat)(self:Int)(j:dp self)(pa:ay)(len:Nat)(pc:Nat)(w:ah)(d:Hid (∀w1,ap w w1->au 245 #[af pa len pc,ag qF,ae 0] w1 λe w'=>e=aw (.bool true)/\w'=w1))(i:Hid (o=some (cB 3 self N))):au 239 #[.agg #[af a 4 c,ae self],af pa len pc] w (kO (N+1) o w):=by
 go_enter func239,ntmps239;go_wp2_with fail;refine(d _ A6.1).mono ?_;rintro e w1 ⟨rfl,g⟩;obtain⟨f,b,r,s⟩:=A7 g;have HB:=av f;have h:=av b;have p:w.heap.size<w1.heap.size:=by have:=b.2.2;omega
 clear g f b d;obtain⟨⟨k,l,m,n⟩,⟨f0,f1,f2,f3⟩,q⟩:=h;go_wp2_with fail;rw[i.out];exact aE (v:=ax #[aB 3 self .empty none 0 0,.bool true]) (by simp[results,results239,go_sem,k,l,m,n];rfl) rfl (zy (dy HB (by omega) _ _ _ _) 3 self (by simp[dp]) j)
theorem PF(N:Nat)(o:Option (Tm (N+1)))(a:ay)(c:Nat)(self:Int)(b po:Nat)(j k:Int)(l:aq)(xa:ay)(m xc:Nat)(y0 y1:Int)(y2:aq)(ya:ay)(yl yc:Nat)(pc:Nat)(w:ah)(p:Hid (∀w1,ap w w1->au 245 #[af (some ⟨b,po,none⟩) 3 pc,ag qF,ae 0] w1 λe w'=>e=aw (.bool false)/\w'=w1))(D:Hid (∀w1,ap w w1->au 245 #[af (some ⟨b,po,none⟩) 3 pc,ag A9,ae 2] w1 λe w'=>e=aw (.bool true)/\w'=w1))(g:b<w.heap.size)(G:w.cell? ⟨b,po+4,none⟩=some (ae j)/\w.cell? ⟨b,po+4+1,none⟩=some (ae k)/\w.cell? ⟨b,po+4+2,none⟩=some (ag l)/\w.cell? ⟨b,po+4+3,none⟩=some (af xa m xc))(H:w.cell? ⟨b,po+8,none⟩=some (ae y0)/\w.cell? ⟨b,po+8+1,none⟩=some (ae y1)/\w.cell? ⟨b,po+8+2,none⟩=some (ag y2)/\w.cell? ⟨b,po+8+3,none⟩=some (af ya yl yc))(E:Hid (∀w1,ap w w1->au 246 #[.agg #[af a 4 c,ae self],aB j k l xa m xc,aB y0 y1 y2 ya yl yc] w1 (kO (N+1) o w1))):au 239 #[.agg #[af a 4 c,ae self],af (some ⟨b,po,none⟩) 3 pc] w (kO (N+1) o w):=by
 go_enter func239,ntmps239;go_wp2_with fail;refine(p _ A6.1).mono ?_;rintro e w1 ⟨rfl,r⟩;obtain⟨q,i,Z,aa⟩:=A7 r;have HB:=av q;have n:=av i;have X:w.heap.size<w1.heap.size:=by have:=i.2.2;omega
 clear r q i p;have f:=aC HB;obtain⟨s,t,u,x⟩:=G;obtain⟨y,z,A,B⟩:=H;replace s:=(f _ _ g).trans s;replace t:=(f _ _ g).trans t;replace u:=(f _ _ g).trans u;replace x:=(f _ _ g).trans x;replace y:=(f _ _ g).trans y;replace z:=(f _ _ g).trans z;replace A:=(f _ _ g).trans A;replace B:=(f _ _ g).trans B;clear f;go_wp2_with fail;refine(D _ HB).mono ?_;rintro e P ⟨rfl,rfl⟩;have W:b<P.heap.size:=bi g HB.size;have U:¬(w.heap.size+1=b):=by omega
 have V:¬(b=w.heap.size+1):=by omega
 have I:∀d:Tm (N+1),dG (N+1) d=aB d.1.1 d.1.2.1 d.1.2.2 d.2.1.1 d.2.2.length d.2.1.2:=λ_=>rfl;go_wp2_with fail
 go_region_held3 (λw'=>w'.cell? ⟨w.heap.size,0,none⟩=some (af a 4 c)/\w'.cell? ⟨w.heap.size,1,none⟩=some (ae self)/\w'.cell? ⟨b,po+4,none⟩=some (ae j)/\w'.cell? ⟨b,po+4+1,none⟩=some (ae k)/\w'.cell? ⟨b,po+4+2,none⟩=some (ag l)/\w'.cell? ⟨b,po+4+3,none⟩=some (af xa m xc)
     /\w'.cell? ⟨b,po+8,none⟩=some (ae y0)/\w'.cell? ⟨b,po+8+1,none⟩=some (ae y1)/\w'.cell? ⟨b,po+8+2,none⟩=some (ag y2)/\w'.cell? ⟨b,po+8+3,none⟩=some (af ya yl yc))
  (go_keep) ((go_at_call 246;refine(E _ HB.drew).mono ?_;rintro e ab ⟨d,J,rfl,h⟩;rw[I];have f:=aC (de h.1);have C:=av (n.below (de h.1));obtain⟨⟨Q,R,S,T⟩,⟨f0,f1,f2,f3⟩,Y⟩:=C))
 have F:=λK L M O=>av (xp HB.drew (kv _ 1) n.2.2 h K L M O);clear h f;go_wp2_with fail;exact aE (v:=ax #[aB d.1.1 d.1.2.1 d.1.2.2 d.2.1.1 d.2.2.length d.2.1.2,.bool J]) (by simp[results,results239,go_sem,Q,R,S,T]) rfl (F _ _ _ _)
theorem PG(N:Nat)(o:Option (Tm (N+1)))(a:ay)(c:Nat)(self:Int)(b po:Nat)(n:Nat)(L:n<=N)(x:Tm (n+1))(cl:Bool)(pc:Nat)(w:ah)(l:Hid (∀w1,ap w w1->au 245 #[af (some ⟨b,po,none⟩) 2 pc,ag qF,ae 0] w1 λe w'=>e=aw (.bool false)/\w'=w1))(C:Hid (∀w1,ap w w1->au 245 #[af (some ⟨b,po,none⟩) 2 pc,ag A9,ae 2] w1 λe w'=>e=aw (.bool false)/\w'=w1))(D:Hid (∀w1,ap w w1->au 245 #[af (some ⟨b,po,none⟩) 2 pc,ag DF,ae 1] w1 λe w'=>e=aw (.bool true)/\w'=w1))(f:b<w.heap.size)(M:eh w b (po+4) (n+1) x)(H:Hid (aM ⟨n+1,x⟩))(G:Hid (∀w1,ap w w1->au 91 #[aB x.1.1 x.1.2.1 x.1.2.2 x.2.1.1 x.2.2.length x.2.1.2] w1 λe w'=>∃y:Tm (n+1),e=aw (dG (n+1) y)/\Hid (ap w1 w'/\In w'.heap.size w' (n+1) y/\cG (λq=>w1.heap.size<=q) (n+1) y/\aK (n+1) y (n+1) x=true)))(E:Hid (∀w1,ap w w1->au 132 #[aB x.1.1 x.1.2.1 x.1.2.2 x.2.1.1 x.2.2.length x.2.1.2] w1 λe w'=>e=aw (.bool cl)/\ap w1 w'))(F:Hid (o=if cl then some (bq (N+1) (n+1) x)else none)):au 239 #[.agg #[af a 4 c,ae self],af (some ⟨b,po,none⟩) 2 pc] w (kO (N+1) o w):=by
 go_enter func239,ntmps239;go_wp2_with fail;refine(l _ A6.1).mono ?_;rintro e w1 ⟨rfl,p⟩;obtain⟨m,i,ai,aj⟩:=A7 p;have HB:=av m;have k:=av i;have ab:w.heap.size<w1.heap.size:=by have:=i.2.2;omega
 clear p m i l;have d:=aC HB;obtain⟨t,u,z,A⟩:=M;replace t:=(d _ _ f).trans t;replace u:=(d _ _ f).trans u;replace z:=(d _ _ f).trans z;replace A:=(d _ _ f).trans A;clear d;generalize x.2.2.length=S at*;go_wp2_with fail;refine(C _ HB).mono ?_;rintro e r ⟨rfl,rfl⟩;go_wp2_with fail;refine(D _ HB).mono ?_;rintro e r ⟨rfl,rfl⟩;have Z:b<r.heap.size:=bi f HB.size;have X:¬(w.heap.size+1=b):=by omega
 have Y:¬(b=w.heap.size+1):=by omega
 have J:∀y:Tm (n+1),dG (n+1) y=aB y.1.1 y.1.2.1 y.1.2.2 y.2.1.1 y.2.2.length y.2.1.2:=λ_=>rfl;go_wp2_with fail
 go_region_held3 (λw'=>w'.cell? ⟨b,po+4,none⟩=some (ae x.1.1)/\w'.cell? ⟨b,po+4+1,none⟩=some (ae x.1.2.1)/\w'.cell? ⟨b,po+4+2,none⟩=some (ag x.1.2.2)/\w'.cell? ⟨b,po+4+3,none⟩=some (af x.2.1.1 S x.2.1.2))
  (go_keep) ((first|(go_at_call 91;refine(G _ HB.drew).mono ?_;rintro e s ⟨y,rfl,g⟩;rw[J];have d:=aC (de g.1);have j:Hid (ap w s):=(HB.drew).trans (g.1.mono HB.size))|(go_at_call 132;refine(E _ j).mono ?_;rintro e ak ⟨rfl,h⟩;have K:=aC h;have aa:b<s.heap.size:=bi f j.size;have B:=av ((k.below (de g.1)).below h);obtain⟨⟨T,U,V,W⟩,⟨f0,f1,f2,f3⟩,ad⟩:=B)))
 have I:=λO P Q R=>av (xq L H HB.drew (kv _ 1) k.2.2 g h cl O P Q R);clear g d K h;go_wp2_with fail;rw[F.out];exact aE (v:=ax #[aB y.1.1 y.1.2.1 y.1.2.2 y.2.1.1 y.2.2.length y.2.1.2,.bool cl]) (by simp[results,results239,go_sem,T,U,V,W]) rfl (I _ _ _ _)
theorem Oc(N:Nat)(o:Option (Tm (N+1)))(a:ay)(c:Nat)(self:Int)(pa:ay)(len:Nat)(pc:Nat)(w:ah)(h:Hid (∀w1,ap w w1->au 245 #[af pa len pc,ag qF,ae 0] w1 λe w'=>e=aw (.bool false)/\w'=w1))(i:Hid (∀w1,ap w w1->au 245 #[af pa len pc,ag A9,ae 2] w1 λe w'=>e=aw (.bool false)/\w'=w1))(j:Hid (∀w1,ap w w1->au 245 #[af pa len pc,ag DF,ae 1] w1 λe w'=>e=aw (.bool false)/\w'=w1))(k:Hid (∀w1,ap w w1->au 247 #[.agg #[af a 4 c,ae self],af pa len pc] w1 (kO (N+1) o w1))):au 239 #[.agg #[af a 4 c,ae self],af pa len pc] w (kO (N+1) o w):=by
 go_enter func239,ntmps239;go_wp2_with fail;refine(h _ A6.1).mono ?_;rintro e w1 ⟨rfl,n⟩;obtain⟨m,f,F,G⟩:=A7 n;have HB:=av m;have g:=av f;have D:w.heap.size<w1.heap.size:=by have:=f.2.2;omega
 clear n m f h;go_wp2_with fail;refine(i _ HB).mono ?_;rintro e y ⟨rfl,rfl⟩;go_wp2_with fail;refine(j _ HB).mono ?_;rintro e y ⟨rfl,rfl⟩;go_wp2_with fail;refine(k _ HB).mono ?_;rintro e H ⟨b,r,rfl,d⟩;have p:=av (g.below d.1);have q:=λs t u x=>av (xp HB (kv _ 1) g.2.2 d s t u x);obtain⟨⟨z,A,B,C⟩,⟨f0,f1,f2,f3⟩,E⟩:=p;have l:dG (N+1) b=aB b.1.1 b.1.2.1 b.1.2.2 b.2.1.1 b.2.2.length b.2.1.2:=rfl;rw[l];clear d k i j l;go_wp2_with fail;exact aE (v:=ax #[aB b.1.1 b.1.2.1 b.1.2.2 b.2.1.1 b.2.2.length b.2.1.2,.bool r]) (by simp[results,results239,go_sem,z,A,B,C]) rfl (q _ _ _ _)
theorem iI(w:ah)(s0 s1 a b c d:az)(t1 t2 t3:TypeId):ap w (((w.alloc (.cells #[s0,s1] t1)).alloc (.cells #[a,b,c,d] t2)).alloc (.cells #[ae 0,ae 0,ag .empty,af none 0 0] t3))/\ oN (w.heap.size+1+1) (((w.alloc (.cells #[s0,s1] t1)).alloc (.cells #[a,b,c,d] t2)).alloc (.cells #[ae 0,ae 0,ag .empty,af none 0 0] t3)):=by
 refine⟨(((aH _ _).alloc (aA _) _).alloc (by simp) _).alloc (by simp;omega) _,⟨?_,?_,?_,?_⟩,⟨?_,?_,?_,?_⟩,?_⟩<;>simp[go_sem]
theorem Ng(a:(((w.alloc (.cells #[s0,s1] t1)).alloc (.cells #[f,i,j,l] t2)).alloc (.cells #[ae 0,ae 0,ag .empty,af none 0 0] t3)).alloc (.cells #[y0,y1,y2,u] t4)=W):ap w W/\oN (w.heap.size+1+1) W/\ (W.cell? ⟨w.heap.size+1+1+1,0,none⟩=some y0/\W.cell? ⟨w.heap.size+1+1+1,1,none⟩=some y1/\W.cell? ⟨w.heap.size+1+1+1,2,none⟩=some y2/\W.cell? ⟨w.heap.size+1+1+1,3,none⟩=some u)/\w.heap.size+1+1+1<W.heap.size:=by
 subst a;refine⟨nZ _ _ _ _ _,⟨⟨?_,?_,?_,?_⟩,⟨?_,?_,?_,?_⟩,?_⟩,⟨?_,?_,?_,?_⟩,?_⟩<;>simp[go_sem]
theorem Qi(N:Nat)(o:Option (Tm (N+1)))(a:ay)(d:Int)(e:aq)(xa:ay)(f xc:Nat)(c:Nat)(self:Int)(w:ah)(b:Hid (o=none)):au 231 #[.agg #[af a 4 c,ae self],aB 6 d e xa f xc] w (kO (N+1) o w):=by
 go_enter func231,ntmps231;go_wp2_with fail;rw[b.out];exact aE (v:=ax #[aB 0 0 .empty none 0 0,.bool false]) (by simp[results,results231,go_sem];rfl) rfl (lu (iI w _ _ _ _ _ _ _ _ _).1)
theorem Qj(N:Nat)(o:Option (Tm (N+1)))(a:ay)(p:Int)(q:aq)(xa:ay)(g xc:Nat)(c:Nat)(self:Int)(w:ah)(e:Hid (∀w1,ap w w1->au 239 #[.agg #[af a 4 c,ae self],af xa g xc] w1 (kO (N+1) o w1))):au 231 #[.agg #[af a 4 c,ae self],aB 4 p q xa g xc] w (kO (N+1) o w):=by
 go_enter func231,ntmps231;go_wp2_with fail;refine(e _ (iI w _ _ _ _ _ _ _ _ _).1).mono ?_;rintro x z ⟨b,j,rfl,d⟩;have h:=av ((iI w _ _ _ _ _ _ _ _ _).2.below d.1);have i:=λk l m n=>av (xp (iI w _ _ _ _ _ _ _ _ _).1 (kv w.heap.size 2) (iI w _ _ _ _ _ _ _ _ _).2.2.2 d k l m n);obtain⟨⟨r,s,t,u⟩,⟨f0,f1,f2,f3⟩,y⟩:=h;have f:dG (N+1) b=aB b.1.1 b.1.2.1 b.1.2.2 b.2.1.1 b.2.2.length b.2.1.2:=rfl;rw[f];clear d e f;go_wp2_with fail;exact aE (v:=ax #[aB b.1.1 b.1.2.1 b.1.2.2 b.2.1.1 b.2.2.length b.2.1.2,.bool j]) (by simp[results,results231,go_sem,r,s,t,u]) rfl (i _ _ _ _)
theorem PB(N:Nat)(o:Option (Tm (N+1)))(a:ay)(b:Int)(h:Int)(i:aq)(xa:ay)(j xc:Nat)(n:Nat)(r:n<=N)(x:Tm (n+1))(c:Nat)(self:Int)(w:ah)(E:¬b=4)(F:¬b=5)(G:¬b=6)(m:Hid (aM ⟨n+1,x⟩))(f:Hid (∀w1,ap w w1->au 91 #[aB b h i xa j xc] w1 λe w'=>∃y:Tm (n+1),e=aw (dG (n+1) y)/\Hid (ap w1 w'/\In w'.heap.size w' (n+1) y/\cG (λq=>w1.heap.size<=q) (n+1) y/\aK (n+1) y (n+1) x=true)))(l:Hid (o=some (bq (N+1) (n+1) x))):au 231 #[.agg #[af a 4 c,ae self],aB b h i xa j xc] w (kO (N+1) o w):=by
 go_enter func231,ntmps231;go_wp2_with fail;refine(f _ (iI w _ _ _ _ _ _ _ _ _).1).mono ?_;rintro e I ⟨y,rfl,d⟩;have k:=av ((iI w _ _ _ _ _ _ _ _ _).2.below d.1);have p:=λs t u z=>av (xq r m (iI w _ _ _ _ _ _ _ _ _).1 (kv w.heap.size 2) (iI w _ _ _ _ _ _ _ _ _).2.2.2 d (aH _ _) true s t u z);obtain⟨⟨A,B,C,D⟩,⟨f0,f1,f2,f3⟩,H⟩:=k;have g:dG (n+1) y=aB y.1.1 y.1.2.1 y.1.2.2 y.2.1.1 y.2.2.length y.2.1.2:=rfl;rw[g];clear d f g;go_wp2_with fail;rw[l.out];exact aE (v:=ax #[aB y.1.1 y.1.2.1 y.1.2.2 y.2.1.1 y.2.2.length y.2.1.2,.bool true]) (by simp[results,results231,go_sem,A,B,C,D]) rfl (p _ _ _ _)
theorem Qk(N:Nat)(o:Option (Tm (N+1)))(b bo:Nat)(k:Nat)(l:Int)(M:aq)(xa:ay)(Q xc:Nat)(n:Nat)(E:n<=N)(x:Tm (n+1))(c:Nat)(self:Int)(w:ah)(A:l=(k:Int))(ak:k<4)(aj:b<w.heap.size)(F:eh w b (bo+k*4) (n+1) x)(t:Hid (aM ⟨n+1,x⟩))(s:Hid (∀w1,ap w w1->au 91 #[aB x.1.1 x.1.2.1 x.1.2.2 x.2.1.1 x.2.2.length x.2.1.2] w1 λe w'=>∃y:Tm (n+1),e=aw (dG (n+1) y)/\Hid (ap w1 w'/\In w'.heap.size w' (n+1) y/\cG (λq=>w1.heap.size<=q) (n+1) y/\aK (n+1) y (n+1) x=true)))(p:Hid (∀w1,au 234 #[aB x.1.1 x.1.2.1 x.1.2.2 x.2.1.1 x.2.2.length x.2.1.2] w1 λe w'=>e=aw (.bool (!(x.1.1==6)))/\ap w1 w'))(r:Hid (o=if (!(x.1.1==6))=true then some (bq (N+1) (n+1) x)else none)):au 231 #[.agg #[af (some ⟨b,bo,none⟩) 4 c,ae self],aB 5 l M xa Q xc] w (kO (N+1) o w):=by
 go_enter func231,ntmps231;obtain⟨K,L,O,P⟩:=F;subst A;generalize x.2.2.length=R at*;generalize (!(x.1.1==6))=cl at*;have al:(0:Int)<=(k:Int):=by omega
 have am:(k:Int)<4:=by omega
 have ad:b<w.heap.size+1:=by omega
 have ai:b<w.heap.size+1+1:=by omega
 go_wp2_with fail;generalize i:World.alloc (World.alloc (World.alloc (World.alloc w _) _) _) _=X;obtain⟨g,h,⟨Y,Z,aa,ab⟩,B⟩:=Ng i;have HB:=av g;have f:=av h;clear i g h K L O P;have z:∀y:Tm (n+1),dG (n+1) y=aB y.1.1 y.1.2.1 y.1.2.2 y.2.1.1 y.2.2.length y.2.1.2:=λ_=>rfl
 go_region_held3 (λw'=>w'.cell? ⟨w.heap.size+1+1+1,0,none⟩=some (ae x.1.1)/\w'.cell? ⟨w.heap.size+1+1+1,1,none⟩=some (ae x.1.2.1)/\w'.cell? ⟨w.heap.size+1+1+1,2,none⟩=some (ag x.1.2.2)/\w'.cell? ⟨w.heap.size+1+1+1,3,none⟩=some (af x.2.1.1 R x.2.1.2))
  (go_keep) ((first|(go_at_call 91;refine(s _ HB.drew).mono ?_;rintro e j ⟨y,rfl,a⟩;rw[z];have C:=aC (de a.1);have W:Hid (ap w j):=(HB.drew).trans (a.1.mono HB.size);have an:w.heap.size+1+1+1<j.heap.size:=bi B a.1.size)|(go_at_call 234;refine(p _).mono ?_;rintro e ar ⟨rfl,d⟩;have D:=aC d;have m:=av ((f.below (de a.1)).below d);obtain⟨⟨S,T,U,V⟩,⟨f0,f1,f2,f3⟩,ao⟩:=m)))
 have u:=λG H I J=>av (xq E t HB.drew (kv w.heap.size 2) f.2.2 a d cl G H I J);clear a C D d;go_wp2_with fail;rw[r.out];exact aE (v:=ax #[aB y.1.1 y.1.2.1 y.1.2.2 y.2.1.1 y.2.2.length y.2.1.2,.bool cl]) (by simp[results,results231,go_sem,S,T,U,V]) rfl (u _ _ _ _)
def xQ(m n:Nat)(self:Int)(f:Tm n->Option (Tm (m+n)))(p:List (Tm n)):Option (Tm (m+n+1)):=
 if uX n p qF 0 then some (cB 3 self (m+n))
 else if uX n p A9 2 then (p[1]?).bind λa=>(p[2]?).bind λc=>(f a).bind λa=>(f c).bind λc=>uP (m+n) a c
 else if uX n p DF 1 then (p[1]?).bind λa=>if aY n a then some (bq (m+n+1) n a)else none
 else (da f p).map (dT (m+n))
theorem Mv(m:Nat)(b:List (Tm m))(self:Int)(n:Nat)(x:Tm (n+1))(a:x.1.1=4):vl m b self (n+1) x=xQ m n self (λy=>vl m b self n y) x.2.2:=by simp[vl,a,xQ]
theorem Mu(m:Nat)(b:List (Tm m))(self:Int)(n:Nat)(x:Tm (n+1))(a:x.1.1=6):vl m b self (n+1) x=none:=by simp[vl,a]
theorem GU(m:Nat)(b:List (Tm m))(self:Int)(n:Nat)(x:Tm (n+1))(a:x.1.1≠4)(c:x.1.1≠5)(d:x.1.1≠6):vl m b self (n+1) x=some (bq (m+n+1) (n+1) x):=by simp[vl,a,c,d]
theorem PE(m:Nat)(b:List (Tm m))(self:Int)(n:Nat)(x:Tm (n+1))(y:Tm m)(k:Nat)(a:x.1.1=5)(c:x.1.2.1=(k:Int))(d:b[k]?=some y):vl m b self (n+1) x=if cm ⟨m,y⟩=6 then none else some (bq (m+n+1) m y):=by
 simp[vl,a,c,d]
theorem Ct{p:List (Tm n)}(a:uX n p s k=true):p.length=1+k:=by
 by_cases b:p.length=1+k
 ·exact b
 ·rw[Gv b]at a;cases a
theorem Lj{o:Option (Tm N)}(d:∀a,o=some a->aM ⟨N,a⟩):PU o:=by
 intro a g e;have c:=d a g;cases N with
 | zero=>exact(dH c).elim
 | succ N=>
  have b:=c (bR N a) (by simp[aI,bR]);have f:a.1.1=1:=e;simp only[cN,bR,f,qX,aT,cD]at b;exact⟨iy b.1.2.1,iy b.1.2.2⟩
theorem FP(m:Nat)(b:List (Tm m))(self:Int)(O:gH m b=true)(N:1<=self/\self<=99)(n:Nat)(ih:OM m b self n)(p:List (Tm n))(pa:ay)(pc:Nat)(a:ay)(c B:Nat)(w:ah)(L:p.length<=8)(g:fV B w n p pa)(v:∀y∈p,aM ⟨n,y⟩)(C:fV B w m b a)(f:B<=w.heap.size):au 239 #[.agg #[af a 4 c,ae self],af pa p.length pc] w (kO (m+n+1) (xQ m n self (λy=>vl m b self n y) p) w):=by
 have D:=λW k (Q:k<=8) h (e:ap w h)=>EI n p pa pc B W k h (g.below (e.mono f)) L Q;have j:=D qF 0 (by omega);have o:=D A9 2 (by omega);have r:=D DF 1 (by omega);have K:∀y∈b,aM ⟨m,y⟩:=λy i=>((iC O).2 y i).2.1;cases e1:uX n p qF 0
 ·rw[e1]at j;cases e2:uX n p A9 2
  ·rw[e2]at o;cases e3:uX n p DF 1
   ·rw[e3]at r;refine Oc (m+n) _ a c self pa p.length pc w j o r ?_;intro h e;have P:=Dz m b self n ih p p.length rfl pa pc a c B h L (g.below (e.mono f)) v (C.below (e.mono f)) (aG f e.size);simpa [xQ,e1,e2,e3]using P
   ·rw[e3]at r;have s:=Ct e3;rcases g with g|⟨G,po,rfl,R,g⟩
    ·rw[g]at s;simp at s
    ·obtain⟨y,i⟩:∃y,p[1]?=some y:=⟨p[1]'(by omega),aV _⟩;obtain⟨u,x⟩:=g 1 y i;have t:=v y (aU i);have z:xQ m n self (λy=>vl m b self n y) p=if aY n y=true then some (bq (m+n+1) n y)else none:=by simp[xQ,e1,e2,e3,i]
     rw[z];cases n with
     | zero=>exact u.elim
     | succ n=>
     rw[show p.length=2 by omega]at j o r ⊢;refine PG (m+(n+1)) _ a c self G po n (by omega) y (aY (n+1) y) pc w j o r (by omega) (by simpa using u) t ?_ ?_ rfl
     ·intro h e;exact iD (n+1) y B h (x.below (e.mono f)) (aG f e.size) t
     ·intro h e;exact jb (n+1) y B h (x.below (e.mono f)) (aG f e.size)
  ·rw[e2]at o;have s:=Ct e2;rcases g with g|⟨G,po,rfl,R,g⟩
   ·rw[g]at s;simp at s
   ·obtain⟨d,E⟩:∃d,p[1]?=some d:=⟨p[1]'(by omega),aV _⟩;obtain⟨y,i⟩:∃y,p[2]?=some y:=⟨p[2]'(by omega),aV _⟩;obtain⟨S,T⟩:=g 1 d E;obtain⟨u,x⟩:=g 2 y i;have M:=v d (aU E);have t:=v y (aU i);have z:xQ m n self (λy=>vl m b self n y) p=xN (vl m b self n d) (vl m b self n y):=by simp[xQ,e1,e2,E,i,xN]
    rw[z];have U:=Lj λJ F=>xo m b self N K n d M J F;have V:=Lj λJ F=>xo m b self N K n y t J F;cases n with
    | zero=>exact u.elim
    | succ n=>
    rw[show p.length=3 by omega]at j o ⊢;refine PF (m+(n+1)) _ a c self G po d.1.1 d.1.2.1 d.1.2.2 d.2.1.1 d.2.2.length d.2.1.2 y.1.1 y.1.2.1 y.1.2.2 y.2.1.1 y.2.2.length y.2.1.2 pc w j o (by omega) (by simpa [eh]using S) (by simpa [eh]using u) ?_;intro h e;refine Mc (m+(n+1)) _ _ U V a c self d.1.1 d.1.2.1 d.1.2.2 d.2.1.1 d.2.2.length d.2.1.2 y.1.1 y.1.2.1 y.1.2.2 y.2.1.1 y.2.2.length y.2.1.2 h ?_ ?_
    ·intro H q;refine ut (m+n) _ a c self d.1.1 d.1.2.1 d.1.2.2 d.2.1.1 d.2.2.length d.2.1.2 H ?_;intro I A;have l:=(e.trans ((q.trans (A.mono q.size)).mono e.size));exact ih d a c B I (T.below (l.mono f)) M (C.below (l.mono f)) (aG f l.size)
    ·intro H q;refine ut (m+n) _ a c self y.1.1 y.1.2.1 y.1.2.2 y.2.1.1 y.2.2.length y.2.1.2 H ?_;intro I A;have l:=(e.trans ((q.trans (A.mono q.size)).mono e.size));exact ih y a c B I (x.below (l.mono f)) t (C.below (l.mono f)) (aG f l.size)
 ·rw[e1]at j;exact Od (m+n) _ a c self ⟨by omega,by omega⟩ pa p.length pc w j (by simp[Hid,xQ,e1])
theorem JL(m:Nat)(b:List (Tm m))(self:Int)(z:gH m b=true)(J:1<=self/\self<=99)(n:Nat):OM m b self n:=by
 induction n with
 | zero=>intro a j c q p v;exact v.elim
 | succ n ih=>
  intro a j c q p v u h g;obtain⟨y,H⟩:=iC z;have t:=u (bR n a) (by simp[aI,bR]);have I:a.2.2.length<=8:=nd (bR n a) t;by_cases s:a.1.1=6
  ·have f:=Qi (m+n) (vl m b self (n+1) a) j a.1.2.1 a.1.2.2 a.2.1.1 a.2.2.length a.2.1.2 c self p (Mu m b self n a s);rw[<-s]at f;exact f
  ·by_cases l:a.1.1=5
   ·have O:0<=a.1.2.1/\a.1.2.1<=3:=by
      have D:¬(5:Int)=1:=by decide
      have E:¬(5:Int)=2:=by decide
      have F:¬(5:Int)=3:=by decide
      have G:¬(5:Int)=4:=by decide
      simp only[cN,bR,l,qX,aT,cD,D,E,F,G,if_false]at t;exact⟨iy t.1.2.1,iy t.1.2.2⟩
    obtain⟨k,A⟩:∃k:Nat,a.1.2.1=(k:Int):=⟨a.1.2.1.toNat,by omega⟩;obtain⟨d,o⟩:∃d,b[k]?=some d:=⟨b[k]'(by omega),aV _⟩;have w:=(H d (aU o)).2.1;have C:=PE m b self n a d k l A o;have M:=h;rcases h with h|⟨B,bo,rfl,N,h⟩
    ·rw[h]at y;simp at y
    ·obtain⟨K,L⟩:=h k d o;cases m with
     | zero=>exact(dH w).elim
     | succ m=>
     have f:=Qk (m+1+n) (vl (m+1) b self (n+1) a) B bo k a.1.2.1 a.1.2.2 a.2.1.1 a.2.2.length a.2.1.2 m (by omega) d c self p A (by omega) (by omega) K w
      (λi e=>iD (m+1) d q i (L.below (e.mono g)) (aG g e.size) w)
      (λi=>jT d.1.1 d.1.2.1 d.1.2.2 d.2.1.1 d.2.2.length d.2.1.2 i)
      (by
       show vl (m+1) b self (n+1) a=_;rw[C];by_cases x:d.1.1=6
       ·simp[cm,x]
       ·simp[cm,x])
     rw[<-l]at f;exact f
   ·by_cases r:a.1.1=4
    ·have f:=Qj (m+n) (vl m b self (n+1) a) j a.1.2.1 a.1.2.2 a.2.1.1 a.2.2.length a.2.1.2 c self p (by
       intro i e;rw[Mv m b self n a r]
       exact FP m b self z J n ih a.2.2 a.2.1.1 a.2.1.2 j c q i I (fV.below (e.mono g) v.2) (λd o=>bu n a d u o) (h.below (e.mono g)) (aG g e.size))
     rw[<-r]at f;exact f
    ·exact PB (m+n) (vl m b self (n+1) a) j a.1.1 a.1.2.1 a.1.2.2 a.2.1.1 a.2.2.length a.2.1.2 n (by omega) a c self p r l s u
       (λi e=>iD (n+1) a q i (v.below (e.mono g)) (aG g e.size) u) (GU m b self n a r l s)
end Go.Proofs.YthjclakhibnamaaGreatDoor
