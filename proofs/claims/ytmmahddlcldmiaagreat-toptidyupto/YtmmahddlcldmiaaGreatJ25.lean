/- Proved here: plain facts and contracts. No condition but what each names. -/
import Derived.Test.YtmmahddlcldmiaaGreatJ24
import Derived.Deep.DeepAppendWide
import Derived.MapKept
namespace Go.Proofs.YtmmahddlcldmiaaGreat
open Go.RowKit Go.Maps Go.Proofs.Tryz
open Go.RowKit
open Go.MapKept
set_option maxRecDepth 100000
set_option maxHeartbeats 4000000
variable {base n:Nat} {bp:BL} {mo:Option Nat} {g:Int×Int->Bool} {w:World}
def NH(base:Nat)(bp:BL)(mo:Option Nat)(n:Nat)(g:Int×Int->Bool)(x:Int)(j:Nat)(a:Option Addr)(L c:Nat)(w W:World):Prop:=
 (di g x j).length=L/\iG w.heap.size (ae a L c) (di g x j) W/\eP base bp mo n (wo g (x::(di g x j).take j)) W/\bt (λb=>mo=some b) w W
def NM(base:Nat)(bp:BL)(mo:Option Nat)(n:Nat)(g:Int×Int->Bool)(x:Int)(j:Nat)(l:List Int)(d:Option Addr)(e:Nat)(q:Nat)(a:Option Addr)(L c:Nat)(w W:World):Prop:=
 (fR g x j l q).length=L/\iG w.heap.size (ae a L c) (fR g x j l q) W/\iG w.heap.size (ae d l.length e) l W/\(∀b,(Value.slice a L c).ownBlock=some b->(Value.slice d l.length e).ownBlock≠some b)/\eP base bp mo n (wo g (x::(di g x (j+1)).take (j+1))) W/\bt (λb=>mo=some b) w W
theorem tq{v:Value}{a:Option Addr}{L c:Nat}{l:List Int}(b:qO v l w)(e:v=ae a L c)(i:Nat)(k:Int)(h:l[i]?=some k):∃g o,a=some ⟨g,o,none⟩/\w.cell? ⟨g,o+i,none⟩=some (ab k):=by
 obtain⟨j,m,d,b⟩:=b.cells;rw[e]at d;injection d with f n p;subst f;exact b i k h
theorem NM.more{x:Int}{j:Nat}{l:List Int}{v:Option Addr}{z q:Nat}{a:Option Addr}{L c:Nat}{W:World}(B:NM base bp mo n g x j l v z q a L c w W)(I:l.Nodup)(M:∀b,LN bp mo b->b<w.heap.size){y:Int}(N:l[q]?=some y)(J:(fR g x j l q).contains y=false){o:Obj}{f m:Nat}{h:World}(K:h.ownsRow w.heap.size 3 1 (ae (some ⟨f,0,none⟩) (L+1) m) (L+1) (jM (fR g x j l q)++ [ab y]))(H:(W.alloc o).grownBy h (Value.slice a L c).ownBlock)(G:(Value.slice a L c).ownBlock=some f\/f=(W.alloc o).heap.size):NM base bp mo n g x j l v z (q+1) (some ⟨f,0,none⟩) (L+1) m w h:=by
 obtain⟨p,C,r,s,D,E⟩:=B;have d:fR g x j l (q+1)=fR g x j l q++ [y]:=by
  rw[qD I N,J];rfl
 have F:aj W (W.alloc o):=(ao _ _).alloc (am _) _;have k:bt (λb=>(Value.slice a L c).ownBlock=some b) W h:=bt.trans (aK F _) (eu H) λb _ d=>d;have u:∀b,(Value.slice a L c).ownBlock=some b->w.heap.size<=b:=λb e=>(C.lt b e).1;refine⟨by rw[d,bm,p];rfl,?_,bk r k λb e d=>s b d e,?_,D.kee k λb e d=>?_,bt.trans E k λb e d=>?_⟩
 ·unfold iG;rw[d,lK,bm,p];exact K
 ·intro b e t;have A:f=b:=aw e;subst A;rcases G with i|i
  ·exact s _ i t
  ·have:=(r.lt _ t).2;simp at i;omega
 ·have:=M b e;have:=u b d;omega
 ·have:=u b d;omega
theorem FT(base:Nat)(bp:BL)(mo:Option Nat)(n:Nat)(g:Int×Int->Bool)(x:Int)(w:World)(u:Hid (Aq g))(Z:Hid (∀b,LN bp mo b->b<w.heap.size))(X:Hid (ak 119 #[.pointer (some ⟨bp.b,bp.o,none⟩),ab x] w λe w'=>∃a L c,e=.returned (ae a L c)/\Hid (NH base bp mo n g x 0 a L c w w'))):ak 81 #[.pointer (some ⟨bp.b,bp.o,none⟩),ab x,.bool false] w λe w'=>∃v,e=.returned v/\Hid (iG w.heap.size v (tu g x) w'/\eP base bp mo n (wo g (x::tu g x)) w'/\bt (λb=>mo=some b) w w'):=by
 obtain⟨B,am,ao,aq,ar⟩:=bR Fc;have F:Hid (Tryz.prog.info? 3=some B/\B.zero=some (ab 0)/\B.size=1/\B.bytes=8):=⟨am,ao,aq,ar⟩;clear am ao aq ar;go_enter func81,ntmps81;go_wp2_with fail;refine X.mono ?_;rintro e a9 ⟨a,L,c,rfl,M⟩;go_wp2_with fail;go_loopw [7,8] (λv q wr=>∃(d:Nat)(a:Option Addr)(L c:Nat),v=ae a L c/\q=ab d/\d<=99/\L<=99/\Hid (NH base bp mo n g x d a L c w wr)) (λ_ q _=>100-(intOf q).toNat)
 case atStart=>exact⟨0,a,L,c,rfl,rfl,by omega,by have m:=(iZ u x 0).le;have p:=M.1;omega,M⟩
 case round=>
  clear M X;obtain⟨d,a,L,c,rfl,rfl,a2,I,h⟩:=hrel;by_cases aN:d<L
  ·obtain⟨r,J⟩:∃r,(di g x d)[d]?=some r:=⟨(di g x d)[d]'(by rw[h.out.1];exact aN),aI _⟩;obtain⟨af,o,rfl,aE⟩:=tq h.2.1.row rfl d r J;have H:=ap J;have aB:Hid (dx r):=by
    have:=(iZ u x d).rng r (aJ J);unfold Hid dx;omega
   clear J;have a5:(0:Int)<=(d:Int):=by omega
   have a6:(d:Int)<(L:Int):=by omega
   have Y:=ap (si h.2.2.1 (u.wo _) aB);go_wp2_with fail;refine Y.mono ?_;rintro e U ⟨aX,rfl,G⟩;obtain⟨l,z⟩:∃l,l=qL (wo g (x::(di g x d).take d)) r:=⟨_,rfl⟩;rw[<-z]at G;obtain⟨j,k⟩:∃j,j=l.length:=⟨_,rfl⟩;have a1:j<=99:=by
    have:=vy (wo g (x::(di g x d).take d)) r;rw[k,z];exact this
   obtain⟨K,C,aU⟩:∃K C,aX=ae K j C:=by
    obtain⟨aC,aD,e,_⟩:=G.out.1.row;exact⟨aC,aD,by rw[k];exact e⟩
   subst aU;have N:Hid l.Nodup:=by rw[z];exact oV _ _
   have aa:Hid (∀f,(fR g x d l f).length<=99):=by rw[z];exact λf=>K4 u H f
   have au:Hid (fR g x d l j=di g x (d+1)):=by rw[k,z];exact ym H
   have W:Hid (NM base bp mo n g x d l K C 0 (some ⟨af,o,none⟩) L c w U):=by
    have aV:=Nb H (g:=g) (x:=x);have A:=G.out;have aT:∀b,mo=some b->b<w.heap.size:=λb e=>Z b (ai e);have aO:bt (λb=>mo=some b) w U:=bt.trans h.2.2.2 A.2.2 λ_ _ e=>e;have ad:fR g x d l 0=di g x d:=by simp[fR,zq]
    have aR:iG w.heap.size (ae (some ⟨af,o,none⟩) L c) (di g x d) U:=bk h.2.1 A.2.2 λb R e=>by
     have:=(h.2.1.lt b R).1;have:=aT b e;omega
    refine⟨by rw[ad];exact h.1,by rw[ad];exact aR,?_,?_,?_,aO⟩
    ·rw[<-k];exact rJ A.1 h.2.2.2.size
    ·intro b R aj;rw[<-k]at aj;have:=(A.1.lt b aj).1;have:=(h.2.1.lt b R).2;omega
    ·rw[<-aV];exact A.2.1
   replace k:=ap k;clear G h Y aE z;go_wp2_with fail;go_loopw [7,28] (λv q wr=>∃(f:Nat)(a:Option Addr)(L c:Nat),v=ae a L c/\q=ab f/\f<=j/\L<=99/\Hid (NM base bp mo n g x d l K C f a L c w wr)) (λ_ q _=>j-(intOf q).toNat)
   case atStart=>exact⟨0,_,L,c,rfl,rfl,aH _,I,W⟩
   case round=>
    clear W;obtain⟨f,a,L,c,rfl,rfl,a4,I,i⟩:=hrel;by_cases aQ:f<j
    ·obtain⟨s,T⟩:∃s,l[f]?=some s:=⟨l[f]'(by rw[<-k.out];exact aQ),aI _⟩;obtain⟨aG,aW,rfl,aZ⟩:=tq i.2.2.1.row rfl f s T;have Q:=ap T;clear T;have a7:(0:Int)<=(f:Int):=by omega
     have a8:(f:Int)<(j:Int):=by omega
     have V:=ap (wH i.2.1.row (by rw[i.out.1];omega) s);obtain⟨t,S⟩:∃t,t=(fR g x d l f).contains s:=⟨_,rfl⟩;rw[<-S]at V;have P:=ap S;clear S;go_wp2_with fail;refine V.mono ?_;rintro e D ⟨rfl,rfl⟩;cases t
     ·have aY:=ap (aa (f+1));have aw:Hid (L+1<=99):=by
       have m:=aa (f+1);have p:=i.1;rw[qD N.out Q.out,<-P.out,bm]at m;simp at m;unfold Hid;omega
      have az:Hid (w.heap.size<=D.heap.size):=i.2.2.2.2.2.size;have ay:=ap i.2.1;have ax:=ap i.1
      go_wp2_with (first
       | (at_builtin;refine wpList_append_lies _ rfl _ _ 25 rfl w.heap.size 3 B _ 1 8 underlying25 F.1 F.2.1 F.2.2.1 F.2.2.2 rfl (by decide) (ae a L c) L (jM (fR g x d l f)) rfl ((show D.ownsRow w.heap.size 3 1 (ae a L c) L (jM (fR g x d l f))from by have y:=ay.out;unfold iG at y;rw[ax.out]at y;exact y).alloc _) ⟨D.heap.size,0,none⟩ 1 1 [ab s] rfl rfl (World.news_of_block (cs:= #[ab s]) (t:=3) (fr:=(0,0)) (aA D _)) (by simp[Value.oneCell']) (by decide) (by unfold maxLen;omega) (by omega) (by have:=az.out;simp;omega) _ rfl ?_;intro a0 aF ba an al ah aP;have O:=ap (i.more N Z Q P.symm an al ah);clear an al ah aP))
      go_roundw
      case rel=>exact⟨f+1,_,L+1,aF,rfl,by go_num,by omega,aw,O⟩
      case measure=>simp[intOf];omega
     ·have O:Hid (NM base bp mo n g x d l (some ⟨aG,aW,none⟩) C (f+1) a L c w D):=by
        have y:=i.out;unfold NM at y ⊢;have e:fR g x d l (f+1)=fR g x d l f:=by
         rw[qD N.out Q.out,<-P.out];simp
        rw[e];exact y
      go_wp2_with fail;go_roundw
      case rel=>exact⟨f+1,_,L,c,rfl,by go_num,by omega,I,O⟩
      case measure=>simp[intOf];omega
    ·obtain rfl:f=j:=by omega
     have E:Hid (NH base bp mo n g x (d+1) a L c w wr):=by
      obtain⟨m,p,_,_,aL,aM⟩:=i;rw[au.out]at m p;exact⟨m,p,aL,aM⟩
     have av:Hid (d+1<=99):=by
      have:=(iZ u x d).le;have:=(aS.1 H).1;unfold Hid;omega
     go_wp2_with fail;go_roundw
     case rel=>exact⟨d+1,a,L,c,rfl,by go_num,av,I,E⟩
     case measure=>simp[intOf];omega
  ·have E:Hid (di g x d=tu g x):=Ih u (by rw[h.out.1];omega);have a3:¬(d:Int)<(L:Int):=by omega
   go_wp2_with fail
   go_ret
   obtain⟨m,p,ag,aK⟩:=h;rw[bA (by omega),E.out]at ag;rw[E.out]at p;exact⟨_,rfl,p,ag,aK⟩
theorem AC(bp:BL)(x:Int)(w:World)(R:World->Prop)(c:Hid (ak 119 #[.pointer (some ⟨bp.b,bp.o,none⟩),ab x] w λe w'=>∃v,e=.returned v/\Hid (R w'))):ak 81 #[.pointer (some ⟨bp.b,bp.o,none⟩),ab x,.bool true] w λe w'=>e=.returned (ae none 0 0)/\R w':=by
 go_enter func81,ntmps81;go_wp2_with fail;refine c.mono ?_;rintro e d ⟨v,rfl,a⟩;go_wp2_with fail
 go_ret
 exact⟨rfl,a⟩
def uK(g:Int×Int->Bool)(x:Int)(a:Bool):List Int:=if a then []else tu g x
theorem I0(f:eP base bp mo n g w)(h:Aq g){x:Int}(i:dx x)(d:Bool):ak 81 #[.pointer (some ⟨bp.b,bp.o,none⟩),ab x,.bool d] w λe w'=>∃v,e=.returned v/\Hid (iG w.heap.size v (uK g x d) w'/\eP base bp mo n (wo g (x::uK g x d)) w'/\bt (λb=>mo=some b) w w'):=by
 cases d
 ·rw[show uK g x false=tu g x from if_neg (by decide)];refine FT base bp mo n g x w h (λb m=>(f.lt b m).2) ?_;refine(si f h i).mono ?_;rintro e w' ⟨v,rfl,a⟩;obtain⟨j,c,e,_⟩:=a.out.1.row;subst e;exact⟨j,_,c,rfl,rfl,a.1,a.2.1,a.2.2⟩
 ·refine(AC bp x w (λw'=>eP base bp mo n (wo g [x]) w'/\bt (λb=>mo=some b) w w') ?_).mono ?_
  ·refine(si f h i).mono ?_;rintro e w' ⟨v,rfl,a⟩;exact⟨v,rfl,a.2⟩
  ·rw[show uK g x true=[]from if_pos rfl];rintro e w' ⟨rfl,k,l⟩;exact⟨_,rfl,iG.nil _ _,k,l⟩
def EZ:ByteArray:=⟨#[115,112,97,119,110]⟩
def Nr:ByteArray:=⟨#[101,110,100]⟩
def od:ByteArray:=⟨#[116,97,107,101]⟩
def JA:ByteArray:=⟨#[115,101,110,100]⟩
def oc:ByteArray:=⟨#[108,111,115,116]⟩
def tA:Tc:=((0,0,⟨#[]⟩),(none,0),[])
structure Sy where
 last:Int
 ps:List (Int×ByteArray×Tc×List Tc)
 ways:Int×Int->List Tc
 bonds:Int×Int->Bool
 evs:List (ByteArray×Int×Int×Tc)
def Sy.get(s:Sy)(k:Int):Option (ByteArray×Tc×List Tc):=(s.ps.find? λp=>p.1==k).map (·.2)
def Sy.put(s:Sy)(k:Int)(v:ByteArray×Tc×List Tc):Sy:={s with ps:=s.ps.map λp=>if p.1=k then (k,v)else p}
def Sy.tell(s:Sy)(wt:ByteArray)(a b:Int)(t:Tc):Sy:={s with evs:=s.evs++ [(wt,a,b,t)]}
def Sy.add(s:Sy)(a:Int)(nm:ByteArray)(cs:Tc):Sy:=Sy.tell {s with last:=s.last+1,ps:=s.ps++ [(s.last+1,nm,cs,[])]} EZ a (s.last+1) cs
def Sy.drop(s:Sy)(x how:Int):Sy:=Sy.tell {s with ps:=s.ps.eraseP λp=>p.1==x} Nr x how tA
def Sy.fin(s:Sy)(x how:Int):Sy:=(uK s.bonds x (how==1)).foldl (λs y=>s.drop y 4) {s.drop x how with bonds:=wo s.bonds (x::uK s.bonds x (how==1))}
def Sy.deliver(s:Sy)(room a b:Int)(t:Tc):Sy:=match s.get b with
 | none=>s
 | some (nm,cs,cms)=>if nt 13 t room cs cms=2 then s.tell oc a b t else if nt 13 t room cs cms=6 then s.fin b 3 else if nt 13 t room cs cms=0 then s.put b (nm,cs,cms++ [t])else s
def Sy.send(s:Sy)(a b:Int)(t:Tc):Sy:=if nO 12 a b t (s.ways (a,b)).length=0 then Sy.tell {s with ways:=iI s.ways (a,b) (s.ways (a,b)++ [t])} JA a b t else s.tell oc a b t
def Sy.link(s:Sy)(a b:Int):Sy:=if (s.get b).isSome then {s with bonds:=if vk a b=0 then iI s.bonds (iV a b) true else s.bonds}else s
def Sy.may(s:Sy)(n:Nat):Bool:=decide ((s.ps.length:Int)+n<=12) && decide (s.last+n<=90)
section
variable (n:Nat) (prog:List (Bh (n+1))) (room:Int)
def lj(nm:ByteArray):Bool:=(gd (n+1) nm prog).isSome
def Sy.made(s:Sy)(l:List (Int×ByteArray×Tc)):Bool:=s.may l.length && l.all λx=>lj n prog x.2.1 && fY 13 x.2.2 room x.2.1==0
def Sy.follow(s:Sy)(a:Int)(c:Tk):Sy:=
 let s:=c.spawns.foldl (λs b=>s.add a b.2.1 b.2.2) s
 let s:=c.sends.foldl (λs b=>s.send a b.1 b.2) s
 let s:=c.links.foldl (λs b=>s.link a b) s
 if c.fate=1 then s.fin a 1 else s
def Sy.run(s:Sy)(a:Int):Sy×Int:=match s.get a with
 | none=>(s,4)
 | some (nm,cs,cms)=>if rQ n room prog nm a (s.last+1) cs cms=0 then match nE room prog nm a (s.last+1) cs cms with
     | none=>(s,0)
     | some b=>
      let s:=(s.put a (nm,b.state,b.mail)).tell od a 0 b.message
      (if b.fate=2\/b.fate=3 then s.fin a b.fate else if s.made n prog room b.spawns=false then s.fin a 2 else s.follow a b,0)
  else (s,rQ n room prog nm a (s.last+1) cs cms)
def Sy.arrive(s:Sy)(a b:Int):Sy×Int:=match s.ways (a,b)with
 | []=>(s,4)
 | t::l=>
  let s:={s with ways:=iI s.ways (a,b) l}
  (if (s.get b).isSome then s.deliver room a b t else s.tell oc a b t,0)
def Sy.inject(s:Sy)(a:Int)(k:Nat)(x:Tm k):Sy×Int:=if (s.get a).isSome=false then (s,4)else if bz k x≠0 then (s,bz k x)else if aL k x=false then (s,5)else (s.deliver room 0 a (cn k x),0)
def Sy.do(s:Sy)(c a b:Int)(k:Nat)(x:Tm k):Sy×Int:=if c=1 then s.run n prog room a else if c=2 then s.arrive room a b else if c=3 then s.inject room a k x else (s,1)
def Sy.start(s:Sy)(nm:ByteArray)(k:Nat)(x:Tm k):Sy×Int:=if s.may 1=false then (s,2)else if lj n prog nm=false then (s,4)else if fY k x room nm≠0 then (s,fY k x room nm)else (s.add 0 nm (cn k x),0)
end
variable {P:Program} {md:Region.Mode} {ops:Array Oper} {Q:Exit->Act->World->Prop} {S:World->Prop} {X:Nat}
theorem Lr(i:Nat){d:Oper}{v:Value}{f:Nat}{e:Array Bool}{a:Act}{w:World}(l:ops[i]?=some d)(b:(Region.noSelect ops && Region.free md ops e i && (Region.ready md ops e).contains i && Ag md ops X i)=true)(h:∀c a w,Q (.panic c) (a.put d.dst v) w->Q (.panic c) a w)(k:d.guard=none)(m:∀w,S w->(execOp a.eval d).run P w=.ok (.value v) w)(j:S w)(g:jR P md ops Q S X f (e.setIfInBounds i true) (a.put d.dst v) w):jR P md ops Q S X (f+1) e a w:=by
 simp only[aG]at b;exact aU l b.1.1.1 b.1.1.2 b.1.2 b.2 h k m j g
theorem JL:(Tryz.prog.info? 54).map (λi=>(i.zero,i.size,i.bytes))=some (some (.agg #[.string ⟨#[]⟩,.int .i64 0,.int .i64 0,.int .i64 0,.int .i64 0,.string ⟨#[]⟩,.slice none 0 0]),7,88):=by kernel_rfl
def Np(base:Nat)(wt:ByteArray)(a b:Int)(f:Option Addr)(L h:Nat)(xs:List Value)(R:World->World->Int->Int->ByteArray->Option Addr->Nat->Nat->Prop)(w i:World)(g c:Nat):Prop:=
 ∃d e y0 y1 y2 ya yl yc,Below w.heap.size w d/\Below d.heap.size d e/\R d e y0 y1 y2 ya yl yc/\bt (λj=>(Value.slice f L h).ownBlock=some j) e i/\i.ownsRow base 54 7 (.slice (some ⟨g,0,none⟩) (L+1) c) (L+1) (xs++ [.string wt,.int .i64 a,.int .i64 b,.int .i64 y0,.int .i64 y1,.string y2,.slice ya yl yc])/\((Value.slice f L h).ownBlock=some g\/e.heap.size<=g)
theorem Em(base m:Nat)(wt:ByteArray)(a b A B:Int)(C:ByteArray)(xa:Option Addr)(D xc:Nat)(n:Option Addr)(L q:Nat)(xs:List Value)(R:World->World->Int->Int->ByteArray->Option Addr->Nat->Nat->Prop)(w:World)(aU:L<=100000)(X:m<w.heap.size)(aV:base<=w.heap.size)(Z:Hid (w.cell? ⟨m,6,none⟩=some (.slice n L q)/\w.frozen? ⟨m,6,none⟩=false))(ah:Hid (w.ownsRow base 54 7 (.slice n L q) L xs))(ab:Hid ((Value.slice n L q).ownBlock≠some m))(aa:Hid (∀W,Below w.heap.size w W->Calls Tryz.prog 56 #[.agg #[.int .i64 A,.int .i64 B,.string C,.slice xa D xc]] W λe w'=>∃y0 y1 y2 ya yl yc,e=.returned (.agg #[.int .i64 y0,.int .i64 y1,.string y2,.slice ya yl yc])/\Hid (Below W.heap.size W w'/\R W w' y0 y1 y2 ya yl yc))):Calls Tryz.prog 46 #[.pointer (some ⟨m,0,none⟩),.string wt,.int .i64 a,.int .i64 b,.agg #[.int .i64 A,.int .i64 B,.string C,.slice xa D xc]] w λe w'=>e=.returned (.tuple #[])/\Hid (∃g c r,w'=r.setCell ⟨m,6,none⟩ (.slice (some ⟨g,0,none⟩) (L+1) c)/\Np base wt a b n L q xs R w r g c):=by
 obtain⟨aI,aq,aw,ax,ay⟩:=bR JL;have M:=ap (⟨aq,aw,ax,ay⟩:_/\_/\_/\_);clear aq aw ax ay;go_enter func46,ntmps46;go_upto_region 1 with fail;generalize az:w.alloc _=s;have y:Hid (Below w.heap.size w s/\s.heap[w.heap.size]?=some (.cells #[.int .i64 A,.int .i64 B,.string C,.slice xa D xc] 31)):=by
  rw[<-az];exact⟨(ao _ _).alloc (am _) _,aA _ _⟩
 clear az;obtain⟨h,T⟩:∃h,h=w.heap.size:=⟨_,rfl⟩;rw[<-T];rw[<-T]at y;have O:=ap T;clear T;have N:Hid (∀W:World,Below s.heap.size s W->W.cell? ⟨m,6,none⟩=some (.slice n L q)/\W.cell? ⟨h,0,none⟩=some (.int .i64 A)/\W.cell? ⟨h,1,none⟩=some (.int .i64 B)/\W.cell? ⟨h,2,none⟩=some (.string C)/\W.cell? ⟨h,3,none⟩=some (.slice xa D xc)):=λW d=>by
  have Q:=(d.block h (aF.1 y.2).1).trans y.2;have aD:=(O.out▸y.out.1:Below w.heap.size w s).trans (d.mono (O.out▸y.out.1:Below w.heap.size w s).size);exact⟨(aD.cell (p:=⟨m,6,none⟩) X).trans Z.1,ag Q 0,ag Q 1,ag Q 2,ag Q 3⟩
 have G:Hid (Below s.heap.size s s.drew):=(ao _ _).drew;have z:Hid (Below w.heap.size w s):=by
  have d:=y.1;rw[O.out]at d;exact d
 have u:=N _ G;refine wp_region_noPanic ?_;refine jE (λW=>W.cell? ⟨m,6,none⟩=some (.slice n L q)/\W.cell? ⟨h,0,none⟩=some (.int .i64 A)/\W.cell? ⟨h,1,none⟩=some (.int .i64 B)/\W.cell? ⟨h,2,none⟩=some (.string C)/\W.cell? ⟨h,3,none⟩=some (.slice xa D xc)) 15 (by kernel_rfl) ?_
 try simp only[dO]
 refine Lr 0 (v:= ?_) rfl (by kernel_rfl) (λ_ _ _ d=>d) rfl ?_ u ?_;rotate_left
 ·intro w' f
  try dsimp only at f
  go_simp
  try with_reducible rfl
 try simp only[Act.put,bY]
 refine Lr 1 (v:= ?_) rfl (by kernel_rfl) (λ_ _ _ d=>d) rfl ?_ u ?_;rotate_left
 ·intro w' f
  try dsimp only at f
  go_simp
  try with_reducible rfl
 try simp only[Act.put]
 refine Lr 2 (v:= ?_) rfl (by kernel_rfl) (λ_ _ _ d=>d) rfl ?_ u ?_;rotate_left
 ·intro w' f
  try dsimp only at f
  go_simp
  try with_reducible rfl
 try simp only[Act.put]
 refine Lr 3 (v:= ?_) rfl (by kernel_rfl) (λ_ _ _ d=>d) rfl ?_ u ?_;rotate_left
 ·intro w' f
  try dsimp only at f
  go_simp
  try with_reducible rfl
 try simp only[Act.put]
 refine Lr 4 (v:= ?_) rfl (by kernel_rfl) (λ_ _ _ d=>d) rfl ?_ u ?_;rotate_left
 ·intro w' f
  try dsimp only at f
  go_simp
  try with_reducible rfl
 try simp only[Act.put]
 refine Lr 5 (v:= ?_) rfl (by kernel_rfl) (λ_ _ _ d=>d) rfl ?_ u ?_;rotate_left
 ·intro w' f
  try dsimp only at f
  go_simp
  try with_reducible rfl
 try simp only[Act.put]
 refine Lr 6 (v:= ?_) rfl (by kernel_rfl) (λ_ _ _ d=>d) rfl ?_ u ?_;rotate_left
 ·intro w' f
  try dsimp only at f
  go_simp
  try with_reducible rfl
 try simp only[Act.put]
 refine Lr 7 (v:= ?_) rfl (by kernel_rfl) (λ_ _ _ d=>d) rfl ?_ u ?_;rotate_left
 ·intro w' f
  try dsimp only at f
  go_simp
  try with_reducible rfl
 try simp only[Act.put]
 refine Lr 8 (v:= ?_) rfl (by kernel_rfl) (λ_ _ _ d=>d) rfl ?_ u ?_;rotate_left
 ·intro w' f
  try dsimp only at f
  go_simp
  try with_reducible rfl
 try simp only[Act.put]
 refine cZ (i:=9) (by kernel_rfl) rfl rfl (λx l=>?_) (by decide)
 go_simp
 refine(aa _ (z.trans (G.mono z.size))).mono ?_;rintro e j ⟨y0,y1,y2,ya,yl,yc,rfl,I⟩;have E:=ap (G.trans (I.1.mono G.size));have S:=N j E;refine l _ _ (λ_=>S) (λ_=>?_);clear l x
 try simp only[Act.put,bY,dn,dm]
 refine Lr 10 (v:= ?_) rfl (by kernel_rfl) (λ_ _ _ d=>d) rfl ?_ S ?_;rotate_left
 ·intro w' f
  try dsimp only at f
  go_simp
  try with_reducible rfl
 try simp only[Act.put,bY]
 have F:=ap (z.trans (E.mono z.size));obtain⟨o,ar⟩:∃o:Obj,o=.cells #[.string wt,.int .i64 a,.int .i64 b,.int .i64 y0,.int .i64 y1,.string y2,.slice ya yl yc] 54:=⟨_,rfl⟩;have K:Hid (Below j.heap.size j (j.alloc o)):=(ao _ _).alloc (am _) o;have ai:=ap (N _ (E.trans (K.mono E.size)));have ae:Hid ((j.alloc o).ownsRow base 54 7 (.slice n L q) L xs):=bk ah (aK (F.trans (K.mono F.size)) λ_=>False) λ_ _ d=>d;have ad:Hid ((j.alloc o).heap[j.heap.size]?=some o):=aA j o;have U:Hid ((j.alloc o).heap.size=j.heap.size+1):=(show _=_ by simp);rw[ar]at K ai ae ad U;clear ar o;refine cZ (i:=11) (by kernel_rfl) rfl rfl (λx l=>?_) (by decide)
 go_simp
 refine l _ _ (λ_=>ai) (λaC=>?_);clear l x
 try simp only[Act.put,bY,dn,dm]
 refine cZ (i:=12) (by kernel_rfl) rfl rfl (λx l=>?_) (by decide);refine wp_append_lies _ _ _ 38 rfl base 54 aI _ 7 88 underlying38 M.1 M.2.1 M.2.2.1 M.2.2.2 rfl (by decide) (.slice n L q) L xs rfl ae ⟨j.heap.size,0,none⟩ 1 1 [.string wt,.int .i64 a,.int .i64 b,.int .i64 y0,.int .i64 y1,.string y2,.slice ya yl yc] rfl rfl (World.news_of_block (cs:= #[.string wt,.int .i64 a,.int .i64 b,.int .i64 y0,.int .i64 y1,.string y2,.slice ya yl yc]) (t:=54) (fr:=(0,0)) ad) (by simp[Value.oneCell']) (by decide) (by unfold maxLen;omega) (by omega) (by have:=U.out;have:=F.size;omega) _ rfl ?_;intro P aj r au an ak aE;have H:Hid (bt (λaL=>(Value.slice n L q).ownBlock=some aL) j r):=bt.trans (aK K _) (eu an) λ_ _ e=>e;have Y:Hid ((Value.slice n L q).ownBlock=some P\/j.heap.size<=P):=ak.imp id λe=>by have:=U.out;omega
 have af:=ap au;have J:Hid ((r.cell? ⟨m,6,none⟩=some (.slice n L q)/\r.cell? ⟨h,0,none⟩=some (.int .i64 A)/\r.cell? ⟨h,1,none⟩=some (.int .i64 B)/\r.cell? ⟨h,2,none⟩=some (.string C)/\r.cell? ⟨h,3,none⟩=some (.slice xa D xc))/\r.frozen? ⟨m,6,none⟩=false):=by
  have aG:¬(Value.slice n L q).ownBlock=some h:=λe=>by
   have:=(ah.lt h e).2;have:=O.out;omega
  have aH:h<j.heap.size:=by
   have:=E.size;have:=(aF.1 y.2).1;omega
  have av:m<j.heap.size:=aR X F.size;obtain⟨aM,aN,aO,aP,aQ⟩:=S;have k:=λaJ=>H.cell aJ aH aG;refine⟨⟨(H.cell 6 av ab).trans aM,(k 0).trans aN,(k 1).trans aO,(k 2).trans aP,(k 3).trans aQ⟩,?_⟩;have al:=Z.2;unfold World.frozen? at al ⊢;rw[H.out.block m av ab.out,F.out.block m X];exact al
 clear au an ak aE;refine l _ _ (λ_=>J.1) (λV=>?_);clear l x
 try simp only[Act.put,bY]
 refine cZ (i:=13) (by kernel_rfl) rfl rfl (λx l=>?_) (by decide)
 go_simp
 refine l _ _ (λ_=>V) (λ_=>?_);clear l x
 try simp only[Act.put,bY,dn,dm]
 refine Lr 14 (v:= ?_) rfl (by kernel_rfl) (λ_ _ _ d=>d) rfl ?_ V ?_;rotate_left
 ·intro w' f
  try dsimp only at f
  go_simp
  try with_reducible rfl
 try simp only[Act.put,bY]
 have aT:=J.2;have aS:=J.1.1;refine jD (by kernel_rfl) rfl rfl (by kernel_rfl) (λx l=>?_)
 go_simp
 refine l _ _ (NoPanic.normal ?_);clear l x
 try simp only[Act.put,bY,dn,dm]
 have aB:Hid (Np base wt a b n L q xs R w r P aj):=⟨s.drew,j,y0,y1,y2,ya,yl,yc,z.trans (G.mono z.size),I.1,I.2,H,af,Y⟩;clear N aa J af Y H I u V aC S;exact dh (v:=.tuple #[]) (by simp[results]) rfl ⟨rfl,P,aj,r,rfl,aB⟩
def Al(b:Nat):Value:=aC b
def ww{b:Type}(f:b->Value)(w:World)(c:Nat)(l:List (Int×b)):Prop:=∃es a,w.heap[c]?=some (.map es a)/\es.toList.map (λe=>(e.key,e.val))=l.map (λp=>(ab p.1,f p.2))/\Stamped es a
def cU{a:Type}(l:List (Int×a))(k:Int):Option a:=(l.find? λp=>p.1==k).map (·.2)
section
variable {α:Type} {f:α->Value}
theorem Fb(k:Int):(es:List MapEntry)->(l:List (Int×α))->(i:Nat)->es.map (λe=>(e.key,e.val))=l.map (λp=>(ab p.1,f p.2))-> Instr.findNow (.int .i64) (ab k) es i=some ((l.findIdx? (λp=>p.1==k)).map λj=>(i+j,((cU l k).map f).getD undef))
 | [],[],_,_=>rfl
 | [],_::_,_,h=>by simp at h
 | _::_,[],_,h=>by simp at h
 | e::es,p::l,i,h=>by
  rw[aN,aN,kI]at h;obtain⟨b,g⟩:=h;have d:e.key=ab p.1:=(Prod.mk.inj b).1;have n:e.val=f p.2:=(Prod.mk.inj b).2;have ih:=Fb k es l (i+1) g;by_cases a:p.1=k
  ·have c:(k==p.1)=true:=by simp[a]
   simp[Instr.findNow,Instr.sameNow,d,n,a,List.findIdx?_cons,cU]
  ·have c:(k==p.1)=false:=by simpa using λe=>a e.symm
   have m:(p.1==k)=false:=by simpa using a
   rw[Instr.findNow,d];simp only[Instr.sameNow,cT,c];rw[ih];simp only[List.findIdx?_cons,cU,jG,m];congr 1;cases List.findIdx? (λp=>p.1==k) l with
   | none=>rfl
   | some j=>simp;omega
theorem nw{w:World}{es:Array MapEntry}{l:List (Int×α)}(k:Int)(b:es.toList.map (λe=>(e.key,e.val))=l.map λp=>(ab p.1,f p.2)):(Instr.findKey 3 (ab k) es.toList).run Tryz.prog w=.ok ((l.findIdx? (λp=>p.1==k)).map λj=>(j,((cU l k).map f).getD undef)) w:=by
 have c:=underlying3;have a:=Fb k es.toList l 0 b;simp only[cX]at a;simp[Instr.findKey,cq c,Result.andThen,a]
theorem lf(w:World)(em:Bool)(k:Int):(Instr.checkKey em 10000 3 (ab k)).run Tryz.prog w=.ok () w:=by
 have a:=underlying3;unfold Instr.checkKey;simp[cq a,Result.andThen]
theorem zh{l:List (Int×α)}{k:Int}(a:cU l k=none):l.findIdx? (λp=>p.1==k)=none:=by
 unfold cU at a;rw[pt];intro p b;rw[Option.map_eq_none_iff,pr]at a;simpa using a p b
theorem Mn{l:List (Int×α)}{k:Int}{b:α}(a:cU l k=some b):∃j,l.findIdx? (λp=>p.1==k)=some j:=by
 cases e:l.findIdx? (λp=>p.1==k)with
 | some j=>exact⟨j,rfl⟩
 | none=>
  unfold cU at a;rw[pt]at e;have:l.find? (λp=>p.1==k)=none:=pr.2 λp c=>by simpa using e p c
  rw[this]at a;cases a
variable {w:World} {mb mt et:Nat} {l:List (Int×α)}
theorem ww.look(i:ww f w mb l)(h:Tryz.prog.underlying mt=some (.map 3 et)){e:Value}(n:(zeroValue et).run Tryz.prog w=.ok e w)(k:Int)(c:Bool):(cU l k=none->(Instr.lookup mt (.map (some mb)) (ab k) c).run Tryz.prog w=.ok (if c then .tuple #[e,.bool false]else e) w)/\ ∀b,cU l k=some b->(Instr.lookup mt (.map (some mb)) (ab k) c).run Tryz.prog w=.ok (if c then .tuple #[f b,.bool true]else f b) w:=by
 obtain⟨es,o,g,j,_⟩:=i;have d:=nw (w:=w) k j;refine⟨λa=>?_,λb a=>?_⟩
 ·rw[zh a]at d;simp[Instr.lookup,cq h,kM g,lf,d,Result.andThen,n]
 ·obtain⟨p,m⟩:=Mn a;rw[m]at d;simp[Instr.lookup,cq h,kM g,lf,d,Result.andThen,a]
theorem ww.put(m:ww f w mb l)(o:Tryz.prog.underlying mt=some (.map 3 et)){k:Int}(i:cU l k=none)(b:α):∃w',(Instr.mapUpdate mt (.map (some mb)) (ab k) (f b)).run Tryz.prog w=.ok () w'/\ww f w' mb (l++ [(k,b)])/\bt (λq=>q=mb) w w'/\w'.heap.size=w.heap.size:=by
 obtain⟨es,u,a,e,n⟩:=m;have h:=nw (w:=w) k e;rw[zh i]at h;refine⟨_,by simp[Instr.mapUpdate,cq o,kM a,lf,h,MapKept.run_setObj_map _ a,Result.andThen];rfl,⟨_,_,(heap_set a).1,?_,stamped_push n λg s j=>?_⟩,?_,?_⟩
 ·simp[e]
 ·have t:(g.key,g.val)∈l.map λc=>(Value.int .i64 c.1,f c.2):=e▸b9.2 ⟨g,s,rfl⟩;obtain⟨c,p,d⟩:=b9.1 t;rw[j]at d;have:=pt.1 (zh i) c p;simp at d;simp[d.1]at this
 ·exact⟨rfl,rfl,rfl,by simp,λq _ r=>(heap_set a).2 q r⟩
 ·simp
theorem Bc{α β:Type}(f:α->β)(l:List α)(i:Nat):(l.map f).eraseIdx i=(l.eraseIdx i).map f:=by
 simp[sR,List.map_take,List.map_drop]
theorem ww.del(m:ww f w mb l)(j:Tryz.prog.underlying mt=some (.map 3 et))(k:Int):∃w',(∀ty,(Builtin.delete_ #[mt,3] ty #[.map (some mb),ab k]).run Tryz.prog w=.ok (.tuple #[]) w')/\ww f w' mb (l.eraseP λp=>p.1==k)/\bt (λq=>q=mb) w w'/\w'.heap.size=w.heap.size:=by
 obtain⟨es,h,a,b,i⟩:=m;have c:=nw (w:=w) k b;cases e:l.findIdx? (λp=>p.1==k)with
 | none=>
  rw[e]at c;refine⟨{w with heap:=w.heap.setIfInBounds mb (.map es h)},λty=>by simp[Builtin.delete_,cq j,kM a,lf,c,MapKept.run_setObj_map _ a,Result.andThen],⟨_,_,(heap_set a).1,?_,i⟩,?_,?_⟩
  ·rw[List.eraseP_of_forall_not λp r=>by have:=pt.1 e p r;rw[this];decide];exact b
  ·exact⟨rfl,rfl,rfl,by simp,λq _ d=>(heap_set a).2 q d⟩
  ·simp
 | some g=>
  rw[e]at c;refine⟨{w with heap:=w.heap.setIfInBounds mb (.map (es.eraseIdxIfInBounds g) h)},λty=>by simp[Builtin.delete_,cq j,kM a,lf,c,MapKept.run_setObj_map _ a,Result.andThen],⟨_,_,(heap_set a).1,?_,stamped_erase i g⟩,?_,?_⟩
  ·have o:g<es.size:=by
     have s:=(List.findIdx?_eq_some_iff_getElem.1 e).1;have n:=congrArg List.length b;simp at n;omega
   rw[List.eraseP_eq_eraseIdx,e];simp only[Array.eraseIdxIfInBounds,o,dite_true,Array.toList_eraseIdx];rw[<-Bc,<-Bc,b]
  ·exact⟨rfl,rfl,rfl,by simp,λq _ d=>(heap_set a).2 q d⟩
  ·simp
theorem ww.len(a:ww f w mb l)(e:Tryz.prog.underlying mt=some (.map 3 et))(ty:TypeId):(Builtin.len_ #[mt] ty #[.map (some mb)]).run Tryz.prog w=.ok (ab l.length) w:=by
 obtain⟨es,g,b,c,_⟩:=a;have d:es.size=l.length:=by
  have:=congrArg List.length c;simpa using this
 simp[Builtin.len_,cq e,kM b,Result.andThen,d];unfold goInt
 go_num
theorem ww.kept{w':World}(b:ww f w mb l)(e:w'.heap[mb]?=w.heap[mb]?):ww f w' mb l:=by
 obtain⟨es,a,c,d⟩:=b;exact⟨es,a,e.trans c,d⟩
theorem ww.new(w:World):ww f (w.alloc (.map #[] 0)) w.heap.size []:=⟨#[],0,aA _ _,rfl,stamped_empty 0⟩
end
abbrev IM(w:World)(a:Nat)(l:List (Int×Nat)):Prop:=ww Al w a l
theorem IM.look{w:World}{a:Nat}{l:List (Int×Nat)}(d:IM w a l)(k:Int)(c:Bool):(cU l k=none->(Instr.lookup 67 (.map (some a)) (ab k) c).run Tryz.prog w=.ok (if c then .tuple #[.pointer none,.bool false]else .pointer none) w)/\ ∀b,cU l k=some b->(Instr.lookup 67 (.map (some a)) (ab k) c).run Tryz.prog w=.ok (if c then .tuple #[Al b,.bool true]else Al b) w:=
 ww.look d underlying67 (by kernel_rfl) k c
theorem Dn(w:World)(k:Int)(c:Bool):(Instr.lookup 67 (.map none) (ab k) c).run Tryz.prog w=.ok (if c then .tuple #[.pointer none,.bool false]else .pointer none) w:=by
 have b:=underlying67;have d:(zeroValue 65).run Tryz.prog w=.ok (.pointer none) w:=by kernel_rfl
 have a:=nw (f:=Al) (w:=w) (es:= #[]) (l:=[]) k rfl;simp[Instr.lookup,cq b,lf,a,Result.andThen,d]
structure jY where
 lo:Nat
 b:Nat
 room:Int
 n:Nat
 prog:List (Bh (n+1))
 pa:Option Addr
 pc:Nat
structure fT where
 ow:Nat->Int
 po:Option Nat
 l:List (Int×Nat)
 wo:Option Nat
 wn:Nat
 f:Int×Int->List Tc
 sl:Int×Int->Value
 bo:Option Nat
 bn:Nat
 ev:Value
 es:List (ByteArray×Int×Int×Tc)
 k:Nat
def dX(p:jY)(s:Sy)(d:fT):Array Value:= #[ae p.pa p.prog.length p.pc,ab p.room,ab s.last,.map d.po,.map d.wo,.map d.bo,d.ev]
def Am(p:jY)(s:Sy)(d:fT):BL:=⟨p.b,4,dX p s d,74⟩
def Nu(p:jY)(s:Sy)(d:fT):BL:=⟨p.b,5,dX p s d,74⟩
def IK(e:ByteArray×Int×Int×Tc):List Value:=[af e.1,ab e.2.1,ab e.2.2.1,ab e.2.2.2.1.1,ab e.2.2.2.1.2.1,af e.2.2.2.1.2.2,ae e.2.2.2.2.1.1 e.2.2.2.2.2.length e.2.2.2.2.1.2]
def wG(t:Tc):Prop:=bz 13 t=0\/(t.1=(0,0,⟨#[]⟩)/\t.2.2=[])
structure bj (p:jY) (s:Sy) (d:fT) (w:World):Prop where
 low:∀b,d.ow b≠0->p.lo<=b/\b<w.heap.size
 box:w.heap[p.b]?=some (.cells (dX p s d) 74)
 own:d.ow p.b=-5
 pg:(gh (p.n+1) w.heap.size w p.pa p.prog/\tD (jS (p.n+1) λb=>d.ow b=-4) (λb=>d.ow b=-4) p.pa p.prog)/\(p.prog.length<=p.pc/\p.pc<=maxLen/\lP p.n p.prog=0/\(ay (p.n+6) (bW p.n p.prog)).length<=2097152)
 pm:(d.po=none/\d.l=[])\/∃mb,d.po=some mb/\d.ow mb=-5/\mb≠p.b/\IM w mb d.l
 keys:d.l.map (·.1)=s.ps.map (·.1)/\(s.ps.map (·.1)).Nodup/\(∀q∈s.ps,1<=q.1/\q.1<=s.last)/\0<=s.last/\s.last<=90/\s.ps.length<=12
 ps:∀k b,cU d.l k=some b->∃nm cs cms,s.get k=some (nm,cs,cms)/\P1 p.lo b nm p.room cs cms (d.k+201) (λq=>d.ow q=k) w/\cms.length<=20
 wy:g9 p.lo (Am p s d) d.wo d.wn 13 d.f d.sl w/\(∀b,rX (Am p s d) d.wo d.sl b->b=p.b\/d.ow b=-1)/\(∀k,(d.f k).map (cn 13)=s.ways k)/\(∀k,(d.f k).length<=20)/\∀k,∀y∈d.f k,bz 13 y=0/\aL 13 y=true/\In w.heap.size w 13 y/\ch (λb=>d.ow b=-1/\¬rX (Am p s d) d.wo d.sl b) 13 y
 bd:eP p.lo (Nu p s d) d.bo d.bn s.bonds w/\Aq s.bonds/\∀b,d.bo=some b->d.ow b=-2
 evr:w.ownsRow p.lo 54 7 d.ev d.es.length (d.es.flatMap IK)/\∀b,d.ev.ownBlock=some b->d.ow b=-3
 evt:d.es.map (λe=>(e.1,e.2.1,e.2.2.1,cn 13 e.2.2.2))=s.evs/\∀e∈d.es,(In w.heap.size w 13 e.2.2.2/\ch (λb=>d.ow b=-3/\d.ev.ownBlock≠some b) 13 e.2.2.2)/\wG e.2.2.2
theorem eS{S D:Nat->Prop}{w w':World}(c:bt S w w')(e:∀b,D b->¬S b){n:Nat}{x:Tm n}(a:In w.heap.size w n x/\ch D n x):In w'.heap.size w' n x/\ch D n x:=
 ⟨(In.off (P:=λb=>D b/\b<w.heap.size) (λb d=>c.block b d.2 (e b d.1)) (In.offB a.2 a.1) a.1).mono c.size,a.2⟩
theorem Gw{l:List (Int×Nat)}{k:Int}{b:Nat}(a:cU l k=some b):(k,b)∈l:=by
 unfold cU at a;cases c:l.find? (λe=>e.1==k)with
 | none=>rw[c]at a;cases a
 | some e=>
  rw[c]at a;have f:=List.mem_of_find?_eq_some c;have d:=List.find?_some c;simp at a d;subst a d;exact f
theorem bj.key{p:jY}{s:Sy}{d:fT}{w:World}(a:bj p s d w){k:Int}{b:Nat}(e:cU d.l k=some b):1<=k/\k<=s.last:=by
 have c:k∈d.l.map (·.1):=b9.2 ⟨_,Gw e,rfl⟩;rw[a.keys.1]at c;obtain⟨g,f,rfl⟩:=b9.1 c;exact a.keys.2.2.1 g f
theorem g9.turn{base:Nat}{p d:BL}{mo:Option Nat}{n N:Nat}{f:Int×Int->List (Tm N)}{sl:Int×Int->Value}{w w':World}(c:g9 base p mo n N f sl w){S:Nat->Prop}(m:bt S w w')(j:∀b,rX p mo sl b->b≠p.b->¬S b)(o:d.b=p.b)(i:tC d mo w'):g9 base d mo n N f sl w':=by
 refine⟨by rw[o];exact c.1,i,?_⟩;rcases c.2.2 with a|⟨q,rfl,l⟩
 ·exact ah a
 ·refine ai ⟨q,rfl,l.kee m λb e=>j b (E9 e) λa=>?_⟩;rcases e with rfl|⟨k,g,h⟩
  ·exact wu c a.symm
  ·exact Aj c g (by rw[h,a])
theorem eP.turn{base:Nat}{p a:BL}{mo:Option Nat}{n:Nat}{g:Int×Int->Bool}{w w':World}(c:eP base p mo n g w){S:Nat->Prop}(i:bt S w w')(h:∀b:Nat,mo=Option.some b->¬S b)(j:a.b=p.b)(f:tC a mo w'):eP base a mo n g w':=by
 refine⟨by rw[j];exact c.1,f,?_⟩;rcases c.2.2 with e|⟨d,rfl,k⟩
 ·exact ah e
 ·exact ai ⟨d,rfl,k.kee i (h d rfl)⟩
section
variable {p:jY} {s:Sy} {d:fT} {w w':World} {ow:Nat->Int} {S:Nat->Prop}
theorem bj.pgK(e:bj p s d w)(f:bt S w w')(g:∀b,d.ow b=-4->¬S b)(h:∀b,d.ow b≠0->ow b=d.ow b):gh (p.n+1) w'.heap.size w' p.pa p.prog/\tD (jS (p.n+1) λb=>ow b=-4) (λb=>ow b=-4) p.pa p.prog:=by
 have c:=cG (dV (p.n+1)) 2 (pH (p.n+1)) p.pa;exact⟨c.2.2.2.1 _ _ _ _ f.size (c.2.2.1 _ _ _ w' _ (λb a=>f.block b a.2 (g b a.1)) (c.2.1 _ _ _ _ e.pg.1.2 e.pg.1.1) e.pg.1.1),c.1 _ _ _ (λb a=>(h b (by rw[a];decide)).trans a) e.pg.1.2⟩
theorem bj.pmK(f:bj p s d w)(k:bt S w w')(j:∀b,d.ow b=-5->b≠p.b->¬S b)(m:∀b,d.ow b≠0->ow b=d.ow b):(d.po=none/\d.l=[])\/∃a,d.po=some a/\ow a=-5/\a≠p.b/\IM w' a d.l:=by
 rcases f.pm with g|⟨a,h,c,e,i⟩
 ·exact ah g
 ·exact ai ⟨a,h,(m a (by rw[c];decide)).trans c,e,i.kept (k.block a (f.low a (by rw[c];decide)).2 (j a c e))⟩
theorem bj.psK(f:bj p s d w)(c:bt S w w'){k:Int}{b j:Nat}(o:d.k<=j)(n:∀b,d.ow b=k->¬S b)(t:∀b,d.ow b≠0->ow b=d.ow b)(r:∀b,ow b≠0->p.lo<=b/\b<w'.heap.size)(g:cU d.l k=some b):∃nm cs a,s.get k=some (nm,cs,a)/\P1 p.lo b nm p.room cs a (j+201) (λq=>ow q=k) w'/\a.length<=20:=by
 obtain⟨nm,cs,a,h,i,m⟩:=f.ps k b g;have u:=(f.key g).1;exact⟨nm,cs,a,h,(i.kept (S:=S) ⟨c.os,c.tape,c.output,c.size,c.block⟩ n).mono (λb e=>(t b (by rw[e];omega)).trans e) (Nat.add_le_add_right o 201) λb e=>r b (by rw[e];omega),m⟩
theorem bj.wyK(e:bj p s d w)(j:bt S w w')(i:∀b,d.ow b=-1->¬S b)(l:∀b,d.ow b≠0->ow b=d.ow b){q:BL}(m:q.b=p.b)(o:tC q d.wo w'):g9 p.lo q d.wo d.wn 13 d.f d.sl w'/\(∀b,rX q d.wo d.sl b->b=p.b\/ow b=-1)/\∀k,∀y∈d.f k,bz 13 y=0/\aL 13 y=true/\In w'.heap.size w' 13 y/\ch (λb=>ow b=-1/\¬rX q d.wo d.sl b) 13 y:=by
 have h:∀b,rX q d.wo d.sl b ↔ rX (Am p s d) d.wo d.sl b:=λb=>by
  unfold rX;rw[m];exact Iff.rfl
 refine⟨e.wy.1.turn j (λb c r=>?_) m o,λb c=>(e.wy.2.1 b ((h b).1 c)).imp id λa=>(l b (by rw[a];decide)).trans a,λk y t=>?_⟩
 ·rcases e.wy.2.1 b c with a|a
  ·exact absurd a r
  ·exact i b a
 ·obtain⟨y1,y2,u⟩:=e.wy.2.2.2.2 k y t;have n:=eS j (λb q=>i b q.1) u;exact⟨y1,y2,n.1,n.2.mono λb g=>⟨(l b (by rw[g.1];decide)).trans g.1,λc=>g.2 ((h b).1 c)⟩⟩
theorem bj.bdK(a:bj p s d w)(g:bt S w w')(f:∀b,d.ow b=-2->¬S b)(h:∀b,d.ow b≠0->ow b=d.ow b){q:BL}(i:q.b=p.b)(e:tC q d.bo w'):eP p.lo q d.bo d.bn s.bonds w'/\Aq s.bonds/\∀b,d.bo=some b->ow b=-2:=
 ⟨a.bd.1.turn g (λb c=>f b (a.bd.2.2 b c)) i e,a.bd.2.1,λb c=>(h b (by rw[a.bd.2.2 b c];decide)).trans (a.bd.2.2 b c)⟩
theorem bj.evK(c:bj p s d w)(h:bt S w w')(f:∀b,d.ow b=-3->¬S b)(i:∀b,d.ow b≠0->ow b=d.ow b):(w'.ownsRow p.lo 54 7 d.ev d.es.length (d.es.flatMap IK)/\∀b,d.ev.ownBlock=some b->ow b=-3)/\∀e∈d.es,(In w'.heap.size w' 13 e.2.2.2/\ch (λb=>ow b=-3/\d.ev.ownBlock≠some b) 13 e.2.2.2)/\wG e.2.2.2:=by
 refine⟨⟨bk c.evr.1 h λb a=>f b (c.evr.2 b a),λb a=>(i b (by rw[c.evr.2 b a];decide)).trans (c.evr.2 b a)⟩,λe g=>⟨?_,(c.evt.2 e g).2⟩⟩;have j:=eS h (λb a=>f b a.1) (c.evt.2 e g).1;exact⟨j.1,j.2.mono λb a=>⟨(i b (by rw[a.1];decide)).trans a.1,a.2⟩⟩
theorem qB{d:fT}{w:World}(a:w.heap[p.b]?=some (.cells (dX p s d) 74)):tC (Am p s d) d.wo w/\tC (Nu p s d) d.bo w:=by
 refine⟨⟨⟨by simp[Am,dX],by simp[Am]⟩,?_⟩,⟨⟨by simp[Nu,dX],by simp[Nu]⟩,?_⟩⟩
 ·simp[Am,dX,a]
 ·simp[Nu,dX,a]
theorem bj.kept(a:bj p s d w)(c:bt S w w')(n:∀b,S b->d.ow b=0):bj p s d w':=by
 have j:∀b,d.ow b≠0->¬S b:=λb e r=>e (n b r);have f:∀b,d.ow b≠0->d.ow b=d.ow b:=λ_ _=>rfl;have h:w'.heap[p.b]?=some (.cells (dX p s d) 74):=(c.block p.b (aF.1 a.box).1 (j p.b (by rw[a.own];decide))).trans a.box;have i:∀b,d.ow b≠0->p.lo<=b/\b<w'.heap.size:=λb e=>⟨(a.low b e).1,aR (a.low b e).2 c.size⟩;have t:∀{t:Int},t≠0->∀b,d.ow b=t->¬S b:=λo b g=>j b (by rw[g];exact o);obtain⟨y1,y2,q⟩:=a.wyK c (t (by decide)) f rfl (qB h).1;obtain⟨l,m⟩:=a.evK c (t (by decide)) f;exact⟨i,h,a.own,⟨a.pgK c (t (by decide)) f,a.pg.2⟩,a.pmK c (λb g _=>t (by decide) b g) f,a.keys,λk b e=>a.psK c (am _) (t (by have:=(a.key e).1;omega)) f i e,⟨y1,y2,a.wy.2.2.1,a.wy.2.2.2.1,q⟩,a.bdK c (t (by decide)) f rfl (qB h).2,l,a.evt.1,m⟩
theorem bj.later(a:bj p s d w)(b:aj w w'):bj p s d w':=a.kept (aK b λ_=>False) λ_ q=>q.elim
end
def OR(f g:Int)(h:ByteArray)(xa:Option Addr)(i xc:Nat)(t:Tc)(w:World):Prop:=
 ∀b,aj w b->ak 56 #[.agg #[ab f,ab g,af h,ae xa i xc]] b λd c=>∃y0 y1 y2 ya yl yc,d=.returned (.agg #[ab y0,ab y1,af y2,ae ya yl yc])/\Hid (aj b c/\∃a:Tc,(a.1=(y0,y1,y2)/\a.2.1=(ya,yc)/\a.2.2.length=yl)/\(In c.heap.size c 13 a/\ch (λe=>b.heap.size<=e) 13 a)/\cn 13 a=t/\wG a)
theorem ku{m:Nat}{x:Tm (m+1)}{w:World}(n:In w.heap.size w (m+1) x)(g:bz (m+1) x=0):OR x.1.1 x.1.2.1 x.1.2.2 x.2.1.1 x.2.2.length x.2.1.2 (cn (m+1) x) w:=λW f=>by
 have l:aD ⟨m+1,x⟩:=aM.2 (bB.1 g).1;refine(ij (m+1) x W.heap.size W ((n.below f).mono f.size) (am _) l).mono ?_;rintro e w' ⟨y,rfl,H⟩;obtain⟨i,j,k,d⟩:=H;have a:bz (m+1) y=0:=(bQ d).trans g;have c:aD ⟨m+1,y⟩:=aM.2 (bB.1 a).1;have b:fD (m+1) y<13:=by have:=(bB.1 a).2.1;omega
 have h:=jx 13 (m+1) y c b;refine⟨y.1.1,y.1.2.1,y.1.2.2,y.2.1.1,y.2.2.length,y.2.1.2,rfl,i,aT 13 (m+1) y,⟨rfl,rfl,by simp[aT]⟩,⟨sC 13 (m+1) y _ _ c b j,t8 13 (m+1) y _ c b k⟩,(ii h).trans (ii d),ah ((bQ h).trans a)⟩
theorem Ji(w:World):OR 0 0 ⟨#[]⟩ none 0 0 tA w:=λW h=>by
 refine(sn 12 0 0 ⟨#[]⟩ none 0 0 [] W (by decide) λw1 c=>?_).mono ?_
 ·refine(lH none 0 w1).mono ?_;rintro e w' ⟨rfl,rfl⟩;exact⟨none,0,[],rfl,ao _ _,rfl,am _,aH _,rfl,ah rfl⟩
 ·rintro e w' ⟨a,b,l,rfl,H⟩;obtain⟨c,d,g,f,_⟩:=H;obtain rfl:l=[]:=bE d;exact⟨0,0,⟨#[]⟩,a,0,b,rfl,c,((0,0,⟨#[]⟩),(a,b),[]),⟨rfl,rfl,rfl⟩,⟨⟨⟨show dx 0 by unfold dx;decide,show dx 0 by unfold dx;decide,show (0:Nat)<=maxLen from aH _,aH _,f⟩,ah rfl⟩,ah rfl⟩,rfl,ai ⟨rfl,rfl⟩⟩
def Fq(d:fT)(w w':World)(t:Int)(q:Nat):Int:=if w.heap.size<=q/\q<w'.heap.size then t else d.ow q
theorem uc{p:jY}{s:Sy}{d:fT}{w w':World}{t:Int}(a:bj p s d w)(e:w.heap.size<=w'.heap.size)(c:p.lo<=w.heap.size):∀b,Fq d w w' t b≠0->p.lo<=b/\b<w'.heap.size:=λb q=>by
 unfold Fq at q;split at q
 ·omega
 ·have:=a.low b q;omega
theorem ud{p:jY}{s:Sy}{d:fT}{w w':World}{t:Int}(a:bj p s d w):∀b,d.ow b≠0->Fq d w w' t b=d.ow b:=λb q=>by
 have:=(a.low b q).2;exact if_neg (by omega)
theorem bj.lo{p:jY}{s:Sy}{d:fT}{w:World}(a:bj p s d w):p.lo<=w.heap.size/\p.b<w.heap.size:=by
 have:=a.low p.b (by rw[a.own];decide);omega
def yE(p:jY)(s:Sy)(d:fT)(wt:ByteArray)(a b:Int)(t:Tc)(w w':World):Prop:=
 ∃e f,bj p (s.tell wt a b t) {d with ow:=Fq d w w' (-3),ev:=e,es:=d.es++ [(wt,a,b,f)]} w'/\bt (λc=>c=p.b\/d.ow c=-3) w w'
theorem bj.tell{p:jY}{s:Sy}{d:fT}{w:World}(h:bj p s d w)(wt:ByteArray)(a b V W:Int)(X:ByteArray)(xa:Option Addr)(Y xc:Nat)(t:Tc)(aE:OR V W X xa Y xc t w)(aD:d.es.length<=100000):ak 46 #[aC p.b,af wt,ab a,ab b,.agg #[ab V,ab W,af X,ae xa Y xc]] w λe w'=>e=.returned (.tuple #[])/\Hid (yE p s d wt a b t w w'):=by
 obtain⟨aa,ap⟩:=h.lo;obtain⟨y,z,m⟩:∃y z,d.ev=ae y d.es.length z:=by
  rcases h.evr.1.2 with⟨e,aA⟩|⟨g,c,aR,e,_⟩
  ·exact⟨none,0,by rw[e,aA]⟩
  ·exact⟨_,c,e⟩
 have O:=h.box;have I:d.ev.ownBlock≠some p.b:=λe=>by
  have u:=h.evr.2 _ e;rw[h.own]at u;cases u
 have ao:=h.evr.1;rw[m]at ao I;refine(Em p.lo p.b wt a b V W X xa Y xc y d.es.length z _ (λK w' y0 y1 y2 ya yl yc=>∃l:Tc,(l.1=(y0,y1,y2)/\l.2.1=(ya,yc)/\l.2.2.length=yl)/\(In w'.heap.size w' 13 l/\ch (λf=>K.heap.size<=f) 13 l)/\cn 13 l=t/\wG l) w aD ap aa ⟨?_,by simp[World.frozen?,O]⟩ ao I aE).mono ?_
 ·have u:=ag O 6;simp only[dX,cQ,dg]at u;rw[m]at u;exact u
 rintro e w' ⟨rfl,au⟩;obtain⟨g,c,q,x,K,L,y0,y1,y2,ya,yl,yc,R,aM,⟨l,⟨M,N,aB⟩,Q,aF,aI⟩,S,aq,J⟩:=au;have H:aj w L:=R.trans (aM.mono R.size);have P:bt (λaQ=>(Value.slice y d.es.length z).ownBlock=some aQ) w q:=(aK H _).trans S λ_ _ e=>e;have o:bt (λf=>f=p.b\/d.ow f=-3) w w':=by
  rw[x];refine(P.mono (T:=λf=>f=p.b\/d.ow f=-3) λf _ e=>ai (h.evr.2 f (by rw[m];exact e))).trans (bC q p.b 6 _) λf _ e=>ah e
 have aL:=o.size;have aU:w'.heap.size=q.heap.size:=by rw[x];simp[World.setCell]
 have Z:w'.heap[p.b]?=some (.cells (dX p (s.tell wt a b t) {d with ow:=Fq d w w' (-3),ev:=ae (some ⟨g,0,none⟩) (d.es.length+1) c,es:=d.es++ [(wt,a,b,l)]}) 74):=by
  have v:q.heap[p.b]?=some (.cells (dX p s d) 74):=(P.block p.b ap I).trans O;rw[x];simp[World.setCell,bJ,v,dX,Sy.tell]
 have ad:=uc (t:=-3) h aL aa;have n:=ud (w':=w') (t:=-3) h;have G:∀{U:Int},U≠ -3->U≠ -5->∀f,d.ow f=U->¬(f=p.b\/d.ow f=-3):=λF v f e i=>by
  rcases i with rfl|i
  ·rw[h.own]at e;exact v e.symm
  ·exact F (e.symm.trans i)
 have an:∀f,w.heap.size<=f->f<w'.heap.size->Fq d w w' (-3) f=-3:=λf av ax=>if_pos ⟨av,ax⟩;obtain⟨ay,az⟩:=qB Z;obtain⟨E,j,r⟩:=h.wyK o (G (by decide) (by decide)) n rfl ay;refine⟨rfl,ae (some ⟨g,0,none⟩) (d.es.length+1) c,l,⟨ad,Z,(n p.b (by rw[h.own];decide)).trans h.own,⟨h.pgK o (G (by decide) (by decide)) n,h.pg.2⟩,h.pmK o (λf M N i=>?_) n,h.keys,λk b f=>h.psK o (am _) (G (by have:=(h.key f).1;omega) (by have:=(h.key f).1;omega)) n ad f,⟨E,j,h.wy.2.2.1,h.wy.2.2.2.1,r⟩,h.bdK o (G (by decide) (by decide)) n rfl az,⟨?_,λf e=>?_⟩,?_,λe A=>?_⟩,o⟩
 ·rcases i with i|i
  ·exact N i
  ·rw[M]at i;cases i
 ·have e:[(wt,a,b,l)].flatMap IK=[af wt,ab a,ab b,ab y0,ab y1,af y2,ae ya yl yc]:=by simp[IK,M,N,aB]
  have v:w'.ownsRow p.lo 54 7 (ae (some ⟨g,0,none⟩) (d.es.length+1) c) (d.es.length+1) (d.es.flatMap IK++ [(wt,a,b,l)].flatMap IK):=by
   rw[e,x];refine bk aq (bC q p.b 6 _) λf aJ i=>?_;have:g=f:=aw aJ;subst this i;rcases J with i|i
   ·exact I i
   ·have:=H.size;omega
  rw[<-kJ]at v;simpa using v
 ·have B:g=f:=aw e;subst B;rcases J with i|i
  ·have F:=h.evr.2 g (by rw[m];exact i);exact(n g (by rw[F];decide)).trans F
  ·have:=H.size;have:=(aq.lt g rfl).2;exact an g (by omega) (by omega)
 ·show _=s.evs++ [(wt,a,b,t)];rw[iy,h.evt.1,aN,b8,aF]
 ·have aH:bt (λf=>f=p.b\/d.ev.ownBlock=some f) w w':=by
    rw[x,m];exact(P.mono (T:=λf=>f=p.b\/(Value.slice y d.es.length z).ownBlock=some f) λf _ e=>ai e).trans (bC q p.b 6 _) λf _ e=>ah e
  have aG:bt (λf=>f=p.b\/d.ev.ownBlock=some f) L w':=by
   rw[x,m];exact(S.mono (T:=λf=>f=p.b\/(Value.slice y d.es.length z).ownBlock=some f) λf _ e=>ai e).trans (bC q p.b 6 _) λf _ e=>ah e
  have aT:=H.size;rcases dl.1 A with A|A
  ·obtain⟨⟨ar,aO⟩,aP⟩:=h.evt.2 e A;refine⟨?_,aP⟩;have C:=eS aH (D:=λf=>(d.ow f=-3/\d.ev.ownBlock≠some f)/\f<w.heap.size) (λf E j=>?_) ⟨ar,In.offB aO ar⟩
   ·refine⟨C.1,C.2.mono λf i=>⟨(n f (by rw[i.1.1];decide)).trans i.1.1,λj=>?_⟩⟩;have B:g=f:=aw j;subst B;rcases J with r|r
    ·exact i.1.2 (by rw[m];exact r)
    ·omega
   ·rcases j with rfl|j
    ·have:=E.1.1;rw[h.own]at this;cases this
    ·exact E.1.2 j
  ·obtain rfl:=dN.1 A;refine⟨?_,aI⟩;have aS:=R.size;have al:∀f,d.ev.ownBlock=some f->f<w.heap.size:=λf i=>(h.evr.1.lt f i).2;have C:=eS aG (D:=λf=>K.heap.size<=f/\f<L.heap.size) (λf E j=>?_) ⟨Q.1,In.offB Q.2 Q.1⟩
   ·have:=S.size;refine⟨C.1,C.2.mono λf i=>⟨an f (by omega) (by omega),λj=>?_⟩⟩;have B:g=f:=aw j;subst B;rcases J with r|r
    ·have:=al g (by rw[m];exact r);omega
    ·omega
   ·rcases j with rfl|j
    ·omega
    ·have:=al f j;omega
theorem PS{w:World}{q:Nat}{a b c d:Value}{T:TypeId}{fr:Nat×Nat}(e:w.heap[q]?=some (.cells #[a,b,c,d] T fr)):w.cell? ⟨q,0,none⟩=some a/\w.cell? ⟨q,1,none⟩=some b/\w.cell? ⟨q,2,none⟩=some c/\w.cell? ⟨q,3,none⟩=some d:=by simp[World.cell?,e]
theorem Gv{l:List (Int×Nat)}{ps:List (Int×ByteArray×Tc×List Tc)}(k:Int)(a:l.map (·.1)=ps.map (·.1)):(cU l k).isSome=((ps.find? λp=>p.1==k).map (·.2)).isSome:=by
 induction l generalizing ps with
 | nil=>
  cases ps with
  | nil=>rfl
  | cons b ps=>simp at a
 | cons c l ih=>
  cases ps with
  | nil=>simp at a
  | cons b ps=>
   simp only[aN,kI]at a;have ih:=ih a.2;unfold cU at ih ⊢;rw[jG,jG,a.1];cases b.1==k
   ·exact ih
   ·rfl
section
variable {p:jY} {s:Sy} {d:fT} {w:World}
theorem bj.alive(a:bj p s d w)(k:Int):(cU d.l k).isSome=(s.get k).isSome:=Gv k a.keys.1
theorem bj.look(g:bj p s d w)(k:Int)(c:Bool):(Instr.lookup 67 (.map d.po) (ab k) c).run Tryz.prog w=.ok (if c then .tuple #[match cU d.l k with|some b=>Al b|none=> .pointer none,.bool (cU d.l k).isSome]else match cU d.l k with|some b=>Al b|none=> .pointer none) w:=by
 rcases g.pm with⟨a,f⟩|⟨j,a,_,_,f⟩
 ·rw[a,f];have:=Dn w k c;cases c<;>exact this
 ·rw[a];obtain⟨h,i⟩:=f.look k c;cases e:cU d.l k with
  | none=>
   rw[h e];cases c<;>rfl
  | some b=>
   rw[i b e];cases c<;>rfl
theorem bj.cells(c:bj p s d w):w.cell? ⟨p.b,0,none⟩=some (ae p.pa p.prog.length p.pc)/\w.cell? ⟨p.b,1,none⟩=some (ab p.room)/\w.cell? ⟨p.b,2,none⟩=some (ab s.last)/\w.cell? ⟨p.b,3,none⟩=some (.map d.po):=by
 have a:=c.box;exact⟨ag a 0,ag a 1,ag a 2,ag a 3⟩
theorem bj.isAlive(a:bj p s d w)(k:Int):ak 51 #[aC p.b,ab k] w λe w'=>e=.returned (.bool (s.get k).isSome)/\w'=w:=by
 have i:=a.cells.2.2.2;have f:=a.look k true;rw[if_pos rfl]at f;have c:=a.alive k;obtain⟨h,g⟩:∃h,h=(s.get k).isSome:=⟨_,rfl⟩;rw[<-g]at c ⊢;rw[c]at f;generalize (match cU d.l k with|some b=>Al b|none=> .pointer none)=j at f;clear c g;generalize d.po=mo at*;clear a;go_enter func51,ntmps51;go_wp2_with fail
 go_ret
 exact⟨rfl,rfl⟩
theorem bj.len(c:bj p s d w)(ty:TypeId):(Builtin.len_ #[67] ty #[.map d.po]).run Tryz.prog w=.ok (ab s.ps.length) w:=by
 have e:d.l.length=s.ps.length:=by
  have:=congrArg List.length c.keys.1;simpa using this
 rcases c.pm with⟨a,b⟩|⟨f,a,_,_,b⟩
 ·rw[a,<-e,b];exact Maps.len_nil underlying67 ty
 ·rw[a,<-e];exact ww.len b underlying67 ty
theorem bj.mayHave(c:bj p s d w)(n:Nat)(r:n<=1000):ak 40 #[aC p.b,ab n] w λe w'=>e=.returned (.bool (s.may n))/\w'=w:=by
 obtain⟨_,_,k,l⟩:=c.cells;have q:=c.len 3;obtain⟨_,_,_,t,u,v⟩:=c.keys;obtain⟨j,a⟩:∃j,j=s.may n:=⟨_,rfl⟩;rw[<-a];unfold Sy.may at a;generalize s.last=h at*;generalize s.ps.length=f at*;generalize d.po=mo at*;clear c;have m:IntKind.i64.wrap ((f:Int)+n)=(f:Int)+n:=by rw[IntKind.wrap];simp[IntKind.bits,IntKind.signed];omega
 have o:IntKind.i64.wrap (h+n)=h+n:=by rw[IntKind.wrap];simp[IntKind.bits,IntKind.signed];omega
 go_enter func40,ntmps40;by_cases g:(f:Int)+n<=12
 ·by_cases i:h+n<=90
  ·rw[gZ g,gZ i]at a;subst a;go_wp2_with fail
   go_ret
   exact⟨rfl,rfl⟩
  ·rw[gZ g,decide_eq_false i]at a;subst a;go_wp2_with fail
   go_ret
   exact⟨rfl,rfl⟩
 ·rw[decide_eq_false g]at a;subst a;go_wp2_with fail
  go_ret
  exact⟨rfl,rfl⟩
theorem Dx(n:Nat)(nm:ByteArray)(l:List (Bh n))(q:Option Addr)(F len B r:Nat)(w:World)(J:l.length=len)(K:len<=9223372036854775807)(C:B<=w.heap.size)(_hsb:r<w.heap.size)(v:Hid (w.cell? ⟨r,0,none⟩=some (ae q len F)))(y:Hid (gh n B w q l)):ak 41 #[aC r,af nm] w λe w'=>e=.returned (.bool (gd n nm l).isSome)/\aj w w':=by
 have H:=v.out;go_enter func41,ntmps41;go_wp2_with fail;go_loopw [12] (λm wr=>∃a:Nat,a<=len/\m=ab a/\Hid (aj w wr/\gd n nm l=gd n nm (l.drop a))) (λm _=>len-(intOf m).toNat)
 case atStart=>exact⟨0,by omega,rfl,ao _ _,rfl⟩
 case round=>
 obtain⟨a,I,rfl,c⟩:=hrel;by_cases L:a<len
 ·obtain⟨b,d⟩:∃b,l[a]?=some b:=⟨l[a]'(by omega),aI _⟩;obtain⟨j,lo,rfl,E,x⟩:∃g o,q=some ⟨g,o,none⟩/\g<B/\Hid (∀(t:Nat)(f:Value),(pH n b)[t]?=some f->w.cell? ⟨g,o+a*2+t,none⟩=some f):=by
   rcases y with e|⟨g,o,e,D,A⟩
   ·rw[e]at d;simp at d
   ·exact⟨g,o,e,D,(A a _ d).1⟩
  have h:∀(t:Nat)(f:Value),(pH n b)[t]?=some f->wr.cell? ⟨j,lo+a*2+t,none⟩=some f:=λt f u=>(c.1.cell (p:=⟨j,lo+a*2+t,none⟩) (aR E C)).trans (x t f u);have G:wr.cell? ⟨j,lo+a*2,none⟩=some (af b.1):=h 0 _ rfl;have O:wr.cell? ⟨j,lo+a*2+1,none⟩=some (ae b.2.1.1 b.2.2.length b.2.1.2):=h 1 _ rfl;have M:(0:Int)<=(a:Int):=by omega
  have N:(a:Int)<(len:Int):=by omega
  have s:Hid (∀o,aj w (wr.alloc o)):=λo=>c.1.alloc c.1.size o;by_cases i:b.1=nm
  ·have k:Hid (gd n nm l=some b):=by
     show _=_;rw[c.out.2,oI n nm d,if_pos i]
   rw[i]at G;clear h c d;go_wp2_with fail
   go_ret
   exact⟨bP (by rw[k.out];rfl),s _⟩
  ·have k:Hid (gd n nm l=gd n nm (l.drop (a+1))):=by
     show _=_;rw[c.out.2,oI n nm d,if_neg i]
   have u:(b.1.toList==nm.toList)=false:=by
    rw[iC];intro e;rw[cu,cu]at e;exact i (ByteArray.ext (Array.ext' e))
   clear h c d;go_wp2_with fail;go_roundw
   case rel=>exact⟨a+1,by omega,by go_num,s _,k⟩
   case measure=>simp[intOf];omega
 ·obtain rfl:a=len:=by omega
  have z:Hid (gd n nm l=none):=by
   show _=_;rw[c.out.2,pq (by omega)];rfl
  have HB:=ap c.1;clear c;go_wp2_with fail
  go_ret
  exact⟨bP (by rw[z.out];rfl),HB⟩
theorem bj.knows(a:bj p s d w)(nm:ByteArray):ak 41 #[aC p.b,af nm] w λe w'=>e=.returned (.bool (lj p.n p.prog nm))/\aj w w':=
 Dx (p.n+1) nm p.prog p.pa p.pc p.prog.length w.heap.size p.b w rfl (az a.pg.2.1 a.pg.2.2.1) (am _) a.lo.2 a.cells.1 a.pg.1.1
end
theorem oe{g:Type}{k j:Int}(d:j≠k):(l:List (Int×g))->(l.eraseP λp=>p.1==k).find? (λp=>p.1==j)=l.find? λp=>p.1==j
 | []=>rfl
 | a::l=>by
  rw[List.eraseP_cons];by_cases b:a.1=k
  ·have c:(a.1==k)=true:=by simpa using b
   have f:(a.1==j)=false:=by simp[b];exact λe=>d e.symm
   simp[c,f]
  ·have c:(a.1==k)=false:=by simpa using b
   simp only[c,cond_false,jG];rw[oe d l]
theorem xk{g:Type}{k:Int}:(l:List (Int×g))->(l.map (·.1)).Nodup->(l.eraseP λp=>p.1==k).find? (λp=>p.1==k)=none
 | [],_=>rfl
 | a::l,hn=>by
  rw[aN,mU]at hn;rw[List.eraseP_cons];by_cases b:a.1=k
  ·have c:(a.1==k)=true:=by simpa using b
   simp only[c,cond_true];refine pr.2 λf e=>?_;simp only[cv];intro d;exact hn.1 (b9.2 ⟨f,e,d.trans b.symm⟩)
  ·have c:(a.1==k)=false:=by simpa using b
   simp only[c,cond_false,jG];exact xk l hn.2
def dS(a:Nat)(d b:fT)(w w':World):Prop:=bt (λq=>d.ow q<0) w w'/\(∀q,q<w.heap.size->b.ow q=d.ow q)/\b.k=d.k/\b.es.length<=d.es.length+a/\b.wn<=d.wn+a/\b.bn<=d.bn+a
theorem dS.trans{a b:Nat}{d d1 d2:fT}{w w1 w2:World}(i:dS a d d1 w w1)(k:dS b d1 d2 w1 w2):dS (a+b) d d2 w w2:=by
 obtain⟨g,h,j,o,p,q⟩:=i;obtain⟨l,m,n,s,t,u⟩:=k;have r:=g.size;exact⟨g.trans l λc e f=>by rw[h c e]at f;exact f,λc e=>(m c (by omega)).trans (h c e),n.trans j,by omega,by omega,by omega⟩
theorem dS.mono{a b:Nat}{d d1:fT}{w w1:World}(c:dS a d d1 w w1)(k:a<=b):dS b d d1 w w1:=by
 obtain⟨e,f,g,h,i,j⟩:=c;exact⟨e,f,g,by omega,by omega,by omega⟩
theorem dS.later(d:fT){w w1:World}(a:aj w w1):dS 0 d d w w1:=⟨aK a _,λ_ _=>rfl,rfl,am _,am _,am _⟩
theorem yE.up{p:jY}{s:Sy}{d:fT}{wt:ByteArray}{a b:Int}{t:Tc}{w w':World}(f:bj p s d w)(k:yE p s d wt a b t w w'):∃e,bj p (s.tell wt a b t) e w'/\dS 1 d e w w':=by
 obtain⟨l,m,g,h⟩:=k;refine⟨_,g,h.mono λi _ c=>?_,λi j=>if_neg (by omega),rfl,by simp,fS _,fS _⟩;rcases c with c|c
 ·rw[c,f.own];decide
 ·rw[c];decide
section
variable {p:jY} {s:Sy} {d:fT} {w:World}
theorem bj.del(a:bj p s d w)(k:Int):∃w',(∀ty,(Builtin.delete_ #[67,3] ty #[.map d.po,ab k]).run Tryz.prog w=.ok (.tuple #[]) w')/\bj p {s with ps:=s.ps.eraseP λq=>q.1==k} {d with l:=d.l.eraseP λq=>q.1==k} w'/\bt (λq=>d.ow q=-5/\q≠p.b) w w':=by
 have J:(d.l.eraseP λq=>q.1==k).map (·.1)=(s.ps.eraseP λq=>q.1==k).map (·.1):=by
  have e:=congrArg (λl=>l.eraseP (λq=>q==k)) a.keys.1;simpa [List.eraseP_map,Function.comp_def]using e
 obtain⟨E,u,F,G,H,I⟩:=a.keys;have L:(d.l.map (·.1)).Nodup:=by rw[E];exact u
 have v:∀(w':World),bt (λq=>d.ow q=-5/\q≠p.b) w w'->((d.po=none/\d.l.eraseP (λq=>q.1==k)=[])\/∃h,d.po=some h/\d.ow h=-5/\h≠p.b/\IM w' h (d.l.eraseP λq=>q.1==k))->bj p {s with ps:=s.ps.eraseP λq=>q.1==k} {d with l:=d.l.eraseP λq=>q.1==k} w':=λw' c M=>by
  have i:∀b,d.ow b≠0->d.ow b=d.ow b:=λ_ _=>rfl;have y:∀b,d.ow b≠0->p.lo<=b/\b<w'.heap.size:=λb q=>⟨(a.low b q).1,aR (a.low b q).2 c.size⟩;have m:w'.heap[p.b]?=some (.cells (dX p s d) 74):=(c.block p.b a.lo.2 λn=>n.2 rfl).trans a.box;have t:∀{t:Int},t≠ -5->∀b,d.ow b=t->¬(d.ow b=-5/\b≠p.b):=λO b e n=>O (e.symm.trans n.1);obtain⟨y1,y2,T⟩:=a.wyK c (t (by decide)) i rfl (qB m).1;obtain⟨f,g⟩:=a.evK c (t (by decide)) i;refine⟨y,m,a.own,⟨a.pgK c (t (by decide)) i,a.pg.2⟩,M,⟨J,?_,λq N=>F q (List.mem_of_mem_eraseP N),G,H,?_⟩,λj b q=>?_,⟨y1,y2,a.wy.2.2.1,a.wy.2.2.2.1,T⟩,a.bdK c (t (by decide)) i rfl (qB m).2,f,a.evt.1,g⟩
  ·exact(u.sublist ((List.eraseP_sublist (l:=s.ps) (p:=λq=>q.1==k)).map _))
  ·exact az (List.length_eraseP_le) I
  ·have x:j≠k:=λe=>by
     subst e;have:cU (d.l.eraseP λq=>q.1==j) j=none:=by unfold cU;rw[xk d.l L];rfl
     rw[this]at q;cases q
   have z:cU d.l j=some b:=by
    unfold cU at q ⊢;rw[oe x]at q;exact q
   obtain⟨P,B,A,r,D⟩:=a.psK c (am _) (t (by have:=(a.key z).1;omega)) i y z;refine⟨P,B,A,?_,D⟩;unfold Sy.get at r ⊢;rw[oe x];exact r
 rcases a.pm with⟨f,g⟩|⟨h,f,g,o,C⟩
 ·refine⟨w,?_,v w (bt.refl _ _) (ah ⟨f,by rw[g];rfl⟩),bt.refl _ _⟩;have K:=underlying67;intro ty;rw[f];simp[Builtin.delete_,cq K,lf,Result.andThen]
 ·obtain⟨w',Q,R,S,_⟩:=ww.del C underlying67 k;have c:bt (λq=>d.ow q=-5/\q≠p.b) w w':=S.mono λq _ e=>by rw[e];exact⟨g,o⟩
  exact⟨w',λty=>by rw[f];exact Q ty,v w' c (ai ⟨h,f,g,o,R⟩),c⟩
theorem Gg(a:Nat)(mo:Option Nat)(x how:Int)(w w1:World)(R:World->Prop)(d:Hid (w.cell? ⟨a,3,none⟩=some (.map mo)))(h:∀ty,(Builtin.delete_ #[67,3] ty #[.map mo,ab x]).run Tryz.prog w=.ok (.tuple #[]) w1)(f:Hid (ak 46 #[aC a,af ⟨#[101,110,100]⟩,ab x,ab how,.agg #[ab 0,ab 0,af ⟨#[]⟩,ae none 0 0]] w1 λe w'=>e=.returned (.tuple #[])/\R w')):ak 80 #[aC a,ab x,ab how] w λe w'=>e=.returned (.tuple #[])/\R w':=by
 have g:=d.out;go_enter func80,ntmps80;go_wp2_with fail;refine f.mono ?_;rintro e i ⟨rfl,b⟩;have c:=ap b;clear b;go_wp2_with fail;exact dh (v:=.tuple #[]) (by simp[results]) rfl ⟨rfl,c⟩
theorem bj.drop(g:bj p s d w)(x how:Int)(k:d.es.length<=100000):ak 80 #[aC p.b,ab x,ab how] w λe w'=>e=.returned (.tuple #[])/\Hid (∃c,bj p (s.drop x how) c w'/\dS 1 d c w w'):=by
 obtain⟨f,m,h,n⟩:=g.del x;refine Gg p.b d.po x how w f _ g.cells.2.2.2 m ((h.tell Nr x how 0 0 ⟨#[]⟩ none 0 0 tA (Ji f) k).mono λe w' a=>⟨a.1,?_⟩);obtain⟨c,i,j⟩:=a.2.up h;have o:dS 0 d {d with l:=d.l.eraseP λa=>a.1==x} w f:=⟨n.mono λa _ e=>by rw[e.1];decide,λ_ _=>rfl,rfl,am _,am _,am _⟩;exact⟨c,i,(o.trans j).mono (am _)⟩
end
theorem MF{w:World}{base:Nat}{e:TypeId}{sz:Nat}{v:Value}{n:Nat}{xs:List Value}(b:w.ownsRow base e sz v n xs):∃a c,v=ae a n c:=by
 rcases b.2 with⟨rfl,rfl⟩|⟨g,c,d,rfl,_⟩
 ·exact⟨none,0,rfl⟩
 ·exact⟨_,c,rfl⟩
section
variable {p:jY} {s:Sy} {d:fT} {w:World}
theorem bj.parted(a:bj p s d w){x:Int}(u:dx x)(h:Bool):ak 81 #[.pointer (some ⟨p.b,5,none⟩),ab x,.bool h] w λe w'=>∃v,e=.returned v/\Hid (iG w.heap.size v (uK s.bonds x h) w'/\bj p {s with bonds:=wo s.bonds (x::uK s.bonds x h)} d w'/\dS 0 d d w w'):=by
 refine(I0 a.bd.1 a.bd.2.1 u h).mono ?_;rintro e w' ⟨v,rfl,l⟩;obtain⟨o,q,c⟩:=l;have f:∀b,d.ow b≠0->d.ow b=d.ow b:=λ_ _=>rfl;have j:∀b,d.ow b≠0->p.lo<=b/\b<w'.heap.size:=λb g=>⟨(a.low b g).1,aR (a.low b g).2 c.size⟩;have t:∀{t:Int},t≠ -2->∀b,d.ow b=t->¬d.bo=some b:=λr b e z=>r (e.symm.trans (a.bd.2.2 b z));have i:w'.heap[p.b]?=some (.cells (dX p s d) 74):=(c.block p.b a.lo.2 (t (by decide) p.b a.own)).trans a.box;obtain⟨y1,y2,y⟩:=a.wyK c (t (by decide)) f rfl (qB i).1;obtain⟨m,n⟩:=a.evK c (t (by decide)) f;exact⟨v,rfl,o,⟨j,i,a.own,⟨a.pgK c (t (by decide)) f,a.pg.2⟩,a.pmK c (λb e _=>t (by decide) b e) f,a.keys,λk b g=>a.psK c (am _) (t (by have:=(a.key g).1;omega)) f j g,⟨y1,y2,a.wy.2.2.1,a.wy.2.2.2.1,y⟩,⟨q,a.bd.2.1.wo _,a.bd.2.2⟩,m,a.evt.1,n⟩,c.mono λb _ e=>by rw[a.bd.2.2 b e];decide,λ_ _=>rfl,rfl,am _,am _,am _⟩
theorem L9{g:Int×Int->Bool}(b:Aq g)(x:Int)(a:Bool):(uK g x a).length<=99:=by
 unfold uK;split
 ·simp
 ·exact(Et b x).le
theorem Ju(b:Nat)(x how:Int)(w:World)(l:List Int)(L:Nat)(h:Bool)(R:Option Addr->Nat->Nat->World->Prop)(D:L<=99)(z:Hid (l.length=L))(s:h=(how==1))(o:Hid (ak 80 #[aC b,ab x,ab how] w λe w'=>e=.returned (.tuple #[])/\Hid (ak 81 #[.pointer (some ⟨b,5,none⟩),ab x,.bool h] w' λe w'=>∃a c,e=.returned (ae a L c)/\Hid (R a c 0 w'))))(A:Hid (∀a c j W,R a c j W->(∀(i:Nat)(k:Int),l[i]?=some k->∃g,a=some ⟨g,0,none⟩/\W.cell? ⟨g,i,none⟩=some (ab k))/\∀y,l[j]?=some y->ak 80 #[aC b,ab y,ab 4] W λe w'=>e=.returned (.tuple #[])/\Hid (R a c (j+1) w'))):ak 48 #[aC b,ab x,ab how] w λe w'=>e=.returned (.tuple #[])/\Hid (∃a c,R a c L w'):=by
 go_enter func48,ntmps48;go_wp2_with fail;refine o.mono ?_;rintro e I ⟨rfl,n⟩;have E:(how==1)=h:=s.symm;clear o s;go_wp2_with fail;refine n.mono ?_;rintro e J ⟨a,c,rfl,d⟩;clear n;go_wp2_with fail;go_loopw [7,20] (λ_ i wr=>∃j:Nat,j<=L/\i=ab j/\Hid (R a c j wr)) (λ_ i _=>L-(intOf i).toNat)
 case atStart=>exact⟨0,aH _,rfl,d⟩
 case round=>
 obtain⟨j,F,rfl,f⟩:=hrel;by_cases C:j<L
 ·obtain⟨y,m⟩:∃y,l[j]?=some y:=⟨l[j]'(by rw[z.out];exact C),aI _⟩;obtain⟨q,r⟩:=A a c j wr f;obtain⟨g,rfl,B⟩:=q j y m;have p:=ap (r y m);have G:(0:Int)<=(j:Int):=by omega
  have H:(j:Int)<(L:Int):=by omega
  clear q r m d;go_wp2_with fail;refine p.mono ?_;rintro e K ⟨rfl,t⟩;clear p B;go_wp2_with fail;go_roundw
  case rel=>exact⟨j+1,by omega,by go_num,t⟩
  case measure=>simp[intOf];omega
 ·obtain rfl:j=L:=by omega
  have u:=ap f.out;clear f d;go_wp2_with fail;exact dh (v:=.tuple #[]) (by simp[results]) rfl ⟨rfl,a,c,u⟩
theorem bj.fin(F:bj p s d w){x how:Int}(O:dx x)(ad:d.es.length<=99000):ak 48 #[aC p.b,ab x,ab how] w λe w'=>e=.returned (.tuple #[])/\Hid (∃h,bj p (s.fin x how) h w'/\dS 100 d h w w'):=by
 have I:=L9 F.bd.2.1 x (how==1);obtain⟨l,z⟩:∃l,l=uK s.bonds x (how==1):=⟨_,rfl⟩;rw[<-z]at I;refine(Ju p.b x how w l l.length (how==1) (λf c B n=>∃h base,bj p ((l.take B).foldl (λs D=>s.drop D 4) {s.drop x how with bonds:=wo s.bonds (x::l)}) h n/\dS (1+B) d h w n/\iG base (ae f l.length c) l n/\∀a,(Value.slice f l.length c).ownBlock=some a->h.ow a=0) I rfl rfl ?_ ?_).mono ?_
 ·refine(F.drop x how (by omega)).mono ?_;rintro e ai ⟨rfl,m⟩;obtain⟨d1,G,S⟩:=m.out;refine⟨rfl,(G.parted O (how==1)).mono ?_⟩;rintro e aj ⟨T,rfl,L⟩;obtain⟨v,K,R⟩:=L;have i:(s.drop x how).bonds=s.bonds:=rfl;rw[i,<-z]at v K;obtain⟨f,c,rfl⟩:∃f c,T=ae f l.length c:=MF v;refine⟨f,c,rfl,d1,_,K,(S.trans R).mono (by omega),v,λa A=>?_⟩;have aa:=(v.lt a A).1;by_cases H:d1.ow a=0
  ·exact H
  ·have:=(G.low a H).2;omega
 ·rintro f c B n ⟨h,base,r,t,u,E⟩;refine⟨λP k o=>?_,λD J=>?_⟩
  ·obtain⟨V,W,e,q⟩:=u.row;injection e with i _ y;subst i y;rcases u.2 with⟨e,M⟩|⟨g,X,Y,e,_⟩
   ·rw[bE M]at o;simp at o
   ·injection e with i _ y;subst i y;rcases q with q|⟨Z,ah,e,ag,q⟩
    ·rw[q]at o;simp at o
    ·injection e with e;injection e with i N;subst i N;have:=q P k o;rw[cX]at this;exact⟨_,rfl,this⟩
  ·have af:=(aS.1 J).1;refine(r.drop D 4 (by have:=t.2.2.2.1;omega)).mono ?_;rintro e w' ⟨rfl,m⟩;obtain⟨d2,Q,C⟩:=m.out;have A:∀a,(Value.slice f l.length c).ownBlock=some a->a<n.heap.size:=λa j=>(u.lt a j).2;refine⟨rfl,d2,base,?_,(t.trans C).mono (by omega),bk u C.1 λa j U=>by rw[E a j]at U;omega,λa j=>(C.2.1 a (A a j)).trans (E a j)⟩;rw[du,J,jj];exact Q
 ·rintro e w' ⟨rfl,m⟩;obtain⟨f,c,h,base,r,t,_⟩:=m;refine⟨rfl,h,?_,t.mono (by omega)⟩;rw[bA (am _)]at r;unfold Sy.fin;rw[<-z];exact r
end
section
variable {p:jY} {s:Sy} {d:fT} {w:World}
theorem bj.linkB(c:bj p s d w){x y:Int}(I:dx x)(J:dx y)(E:d.bn<1000000):ak 122 #[.pointer (some ⟨p.b,5,none⟩),ab x,ab y] w λe w'=>e=.returned (ab (vk x y))/\Hid (∃o,bj p {s with bonds:=if vk x y=0 then iI s.bonds (iV x y) true else s.bonds} o w'/\dS 1 d o w w'):=by
 refine(FU c.bd.1 I J E).mono ?_;rintro e w' ⟨rfl,z⟩;obtain⟨mo,f,g,C⟩:=z;have G:=g.size;have i:∀b,LN (Nu p s d) d.bo b->b=p.b\/d.ow b=-2:=λb e=>e.imp id (c.bd.2.2 b);have F:mo≠some p.b:=λe=>by
  subst e;exact f.ne rfl
 have t:∀{t:Int},t≠ -2->t≠ -5->∀b,d.ow b=t->¬LN (Nu p s d) d.bo b:=λf D b e a=>by
  rcases i b a with a|a
  ·rw[a,c.own]at e;exact D e.symm
  ·exact f (e.symm.trans a)
 have q:w'.heap[p.b]?=some (.cells (dX p {s with bonds:=if vk x y=0 then iI s.bonds (iV x y) true else s.bonds} {d with ow:=Fq d w w' (-2),bo:=mo,bn:=d.bn+1}) 74):=by
  have:=f.2.1.2;simpa [Nu,dX]using this
 have v:=uc (t:=-2) c G c.lo.1;have h:=ud (w':=w') (t:=-2) c;obtain⟨A,B⟩:=qB q;obtain⟨y1,y2,M⟩:=c.wyK g (t (by decide) (by decide)) h rfl A;obtain⟨l,m⟩:=c.evK g (t (by decide) (by decide)) h;refine⟨rfl,{d with ow:=Fq d w w' (-2),bo:=mo,bn:=d.bn+1},⟨v,q,(h p.b (by rw[c.own];decide)).trans c.own,⟨c.pgK g (t (by decide) (by decide)) h,c.pg.2⟩,c.pmK g (λb l m a=>?_) h,c.keys,λk b j=>c.psK g (am _) (t (by have:=(c.key j).1;omega) (by have:=(c.key j).1;omega)) h v j,⟨y1,y2,c.wy.2.2.1,c.wy.2.2.2.1,M⟩,⟨?_,?_,λb e=>?_⟩,l,c.evt.1,m⟩,g.mono λb _ e=>?_,λj N=>if_neg (by omega),rfl,fS _,fS _,am _⟩
 ·rcases i b a with a|a
  ·exact m a
  ·rw[l]at a;cases a
 ·exact⟨f.1,B,f.2.2⟩
 ·show Aq (if vk x y=0 then iI s.bonds (iV x y) true else s.bonds);split
  ·rename_i n;intro k r;by_cases u:k=iV x y
   ·subst u;unfold vk at n;split at n
    ·rename_i H;obtain⟨K,L,O⟩:=H;simp only[nT,aG,cd]at K L;unfold iV;simp only;omega
    ·cases n
   ·rw[bS _ _ u]at r;exact c.bd.2.1 k r
  ·exact c.bd.2.1
 ·rcases C b (ai e)with a|a
  ·rcases i b a with a|a
   ·subst a;exact absurd e F
   ·exact(h b (by rw[a];decide)).trans a
  ·have:=(f.lt b (ai e)).2;exact if_pos ⟨a,this⟩
 ·rcases i b e with a|a
  ·rw[a,c.own];decide
  ·rw[a];decide
theorem Mw(d:Nat)(a b:Int)(r:Bool)(v:Int)(w:World)(R:World->Prop)(f:Hid (ak 51 #[aC d,ab b] w λe w'=>e=.returned (.bool r)/\w'=w))(i:Hid (r=false->R w))(j:Hid (r=true->ak 122 #[.pointer (some ⟨d,5,none⟩),ab a,ab b] w λe w'=>e=.returned (ab v)/\Hid (R w'))):ak 83 #[aC d,ab a,ab b] w λe w'=>e=.returned (.tuple #[])/\Hid (R w'):=by
 go_enter func83,ntmps83;go_wp2_with fail;refine f.mono ?_;rintro e k ⟨rfl,g⟩;obtain rfl:=g.symm;clear g f;cases r
 ·have c:=ap (i rfl);go_wp2_with fail;exact dh (v:=.tuple #[]) (by simp[results]) rfl ⟨rfl,c⟩
 ·have c:=ap (j rfl);go_wp2_with fail;refine c.mono ?_;rintro e l ⟨rfl,h⟩;go_wp2_with fail;exact dh (v:=.tuple #[]) (by simp[results]) rfl ⟨rfl,h⟩
theorem bj.link(f:bj p s d w){a b:Int}(g:dx a)(h:dx b)(i:d.bn<1000000):ak 83 #[aC p.b,ab a,ab b] w λe w'=>e=.returned (.tuple #[])/\Hid (∃c,bj p (s.link a b) c w'/\dS 1 d c w w'):=by
 refine Mw p.b a b (s.get b).isSome (vk a b) w (λw'=>∃c,bj p (s.link a b) c w'/\dS 1 d c w w') (f.isAlive b) (λe=>⟨d,?_,(dS.later d (ao _ _)).mono (aH _)⟩) λe=>?_
 ·unfold Sy.link;rw[e];exact f
 ·unfold Sy.link;rw[e];exact f.linkB g h i
end
section
variable {p:jY} {s:Sy} {d:fT} {w:World}
theorem KG{m:Nat}{x:Tm (m+1)}(c:bz (m+1) x=0)(a b:Int)(L:Nat):nO 12 a b (aT 13 (m+1) x) L=nO 12 a b (cn (m+1) x) L:=by
 have f:aD ⟨m+1,x⟩:=aM.2 (bB.1 c).1;have e:=jx 13 (m+1) x f (by have:=(bB.1 c).2.1;omega);have d:=ei c;unfold nO;rw[bQ e,cF _ _ _ _ e,bQ d,cF _ _ _ _ d]
theorem bj.sendW(g:bj p s d w){a b:Int}(aj:I2 (a,b)){m:Nat}(x:Tm (m+1))(aq:In w.heap.size w (m+1) x)(A:bz (m+1) x=0)(an:d.wn<999999):ak 121 #[.pointer (some ⟨p.b,4,none⟩),ab a,ab b,dq (m+1) x] w λe w'=>e=.returned (ab (nO 12 a b (cn (m+1) x) (s.ways (a,b)).length))/\Hid (∃o,bj p (if nO 12 a b (cn (m+1) x) (s.ways (a,b)).length=0 then {s with ways:=iI s.ways (a,b) (s.ways (a,b)++ [cn (m+1) x])}else s) o w'/\dS 1 d o w w'):=by
 have Y:aD ⟨m+1,x⟩:=aM.2 (bB.1 A).1;have U:fD (m+1) x<13:=by have:=(bB.1 A).2.1;omega
 have Z:=jx 13 (m+1) x Y U;have V:(d.f (a,b)).length=(s.ways (a,b)).length:=by
  have:=congrArg List.length (g.wy.2.2.1 (a,b));simpa using this
 have ax:(d.f (a,b)).length<=20:=g.wy.2.2.2.1 _;have ap:dq (m+1) x=dq (12+1) (aT 13 (m+1) x):=(zo 12 m x).symm;rw[ap];have S:bz 13 (aT 13 (m+1) x)=0:=(bQ Z).trans A;refine(KH (N:=12) g.wy.1 aj (aT 13 (m+1) x) (sC 13 (m+1) x _ _ Y U aq) (fi S) an (by omega)).mono ?_;rintro e w' ⟨rfl,y,P⟩;rw[V,KG A]at y P ⊢;refine⟨rfl,?_⟩;by_cases j:nO 12 a b (cn (m+1) x) (s.ways (a,b)).length=0;rotate_left
 ·rw[if_neg j];exact⟨d,g.later (y j),(dS.later d (y j)).mono (aH _)⟩
 rw[if_pos j];obtain⟨n,mo,sl,aa,C,r,K,ad,ar⟩:=P j;have Q:aL 13 (cn (m+1) x)=true/\(s.ways (a,b)).length<20:=by
  unfold nO gQ at j;split at j
  ·cases j
  ·split at j
   ·rename_i i;exact absurd j i
   ·split at j
    ·cases j
    ·rename_i i;split at j
     ·cases j
     ·exact⟨by simpa using i,by omega⟩
 have R:cn 13 n=cn (m+1) x:=(ii aa).trans (ii Z);have T:bz 13 n=0:=(bQ aa).trans S;have al:aL 13 n=true:=by
  have:=cF _ _ _ _ (ei T);rw[R]at this;exact this.symm.trans Q.1
 have ao:=r.size;have B:=g.wy.2.1;have t:∀{t:Int},t≠ -1->t≠ -5->∀b,d.ow b=t->¬rX (Am p s d) d.wo d.sl b:=λy ah b e c=>by
  rcases B b c with c|c
  ·rw[c,g.own]at e;exact ah e.symm
  ·exact y (e.symm.trans c)
 obtain⟨o,v⟩:∃o,o={d with ow:=Fq d w w' (-1),wo:=mo,wn:=d.wn+1,f:=iI d.f (a,b) (d.f (a,b)++ [n]),sl:=sl}:=⟨_,rfl⟩;obtain⟨E,I⟩:∃E,E={s with ways:=iI s.ways (a,b) (s.ways (a,b)++ [cn (m+1) x])}:=⟨_,rfl⟩;have H:w'.heap[p.b]?=some (.cells (dX p E o) 74):=by
  have:=C.2.1.2;rw[I,v];simpa [Am,dX]using this
 have W:=uc (t:=-1) g ao g.lo.1;have q:=ud (w':=w') (t:=-1) g;obtain⟨M,O⟩:=qB H;rw[v]at O;have ay:∀h,rX (Am p E o) mo sl h->rX (Am p s d) d.wo d.sl h\/w.heap.size<=h:=K;obtain⟨F,G⟩:=g.evK r (t (by decide) (by decide)) q;refine⟨o,?_,?_⟩
 ·rw[<-I,v];rw[I]at*;refine⟨W,by rw[v]at H;exact H,(q p.b (by rw[g.own];decide)).trans g.own,⟨g.pgK r (t (by decide) (by decide)) q,g.pg.2⟩,g.pmK r (λb F G c=>?_) q,g.keys,λk b h=>g.psK r (am _) (t (by have:=(g.key h).1;omega) (by have:=(g.key h).1;omega)) q W h,⟨?_,λh c=>?_,λk=>?_,λk=>?_,λk c i=>?_⟩,g.bdK r (t (by decide) (by decide)) q rfl O,F,g.evt.1,G⟩
  ·rcases B b c with c|c
   ·exact G c
   ·rw[F]at c;cases c
  ·rw[v]at M;exact⟨C.1,M,C.2.2⟩
  ·rcases K h c with z|z
   ·exact(B h z).imp id λe=>(q h (by rw[e];decide)).trans e
   ·exact ai (if_pos ⟨z,(C.lt h c).2⟩)
  ·by_cases l:k=(a,b)
   ·subst l;show (iI d.f (a,b) (d.f (a,b)++ [n]) (a,b)).map (cn 13)=iI s.ways (a,b) (s.ways (a,b)++ [cn (m+1) x]) (a,b);rw[cO,cO,iy,g.wy.2.2.1,aN,b8,R]
   ·show (iI d.f (a,b) (d.f (a,b)++ [n]) k).map (cn 13)=iI s.ways (a,b) (s.ways (a,b)++ [cn (m+1) x]) k;rw[bS _ _ l,bS _ _ l];exact g.wy.2.2.1 k
  ·by_cases l:k=(a,b)
   ·subst l;show (iI d.f (a,b) (d.f (a,b)++ [n]) (a,b)).length<=20;rw[cO,bm,V];have:=Q.2;simp;omega
   ·show (iI d.f (a,b) (d.f (a,b)++ [n]) k).length<=20;rw[bS _ _ l];exact g.wy.2.2.2.1 k
  ·have i:c∈iI d.f (a,b) (d.f (a,b)++ [n]) k:=i;have X:∀J,∀c∈d.f J,bz 13 c=0/\aL 13 c=true/\In w'.heap.size w' 13 c/\ch (λh=>Fq d w w' (-1) h=-1/\¬rX (Am p s d) mo sl h) 13 c:=λJ c i=>by
    obtain⟨au,av,ae,aw⟩:=g.wy.2.2.2.2 J c i;have af:=eS r (D:=λh=>(d.ow h=-1/\¬rX (Am p s d) d.wo d.sl h)/\h<w.heap.size) (λh z L=>z.1.2 L) ⟨ae,In.offB aw ae⟩;refine⟨au,av,af.1,af.2.mono λh u=>⟨(q h (by rw[u.1.1];decide)).trans u.1.1,λL=>?_⟩⟩;rcases K h L with ag|ag
    ·exact u.1.2 ag
    ·omega
   by_cases l:k=(a,b)
   ·subst l;rw[cO]at i;rcases dl.1 i with i|i
    ·exact X _ c i
    ·obtain rfl:=dN.1 i;exact⟨T,al,ad,(In.offB ar ad).mono λh u=>⟨if_pos ⟨u.1.1,u.2⟩,u.1.2⟩⟩
   ·rw[bS _ _ l]at i;exact X _ c i
 ·rw[v]
  exact⟨r.mono λb _ e=>by
   rcases B b e with c|c
   ·rw[c,g.own];decide
   ·rw[c];decide,λh az=>if_neg (by omega),rfl,fS _,am _,fS _⟩
end
theorem ge{w w':World}(b:aj w w'){q:Nat}{o:Obj}(a:w.heap[q]?=some o):w'.heap[q]?=some o:=(b.block q (aF.1 a).1).trans a
theorem Ei(x:Nat)(a b c d:Int)(f:ByteArray)(xa:Option Addr)(g xc:Nat)(v:Int)(w:World)(C R:World->Prop)(A:Hid (∀W,aj w W->ak 121 #[.pointer (some ⟨x,4,none⟩),ab a,ab b,.agg #[ab c,ab d,af f,ae xa g xc]] W λe w'=>e=.returned (ab v)/\Hid (C w'/\∀q,w.heap.size<=q->q<W.heap.size->w'.heap[q]?=W.heap[q]?)))(B:Hid (∀W,C W->ak 46 #[aC x,af (if v=0 then ⟨#[115,101,110,100]⟩else ⟨#[108,111,115,116]⟩),ab a,ab b,.agg #[ab c,ab d,af f,ae xa g xc]] W λe w'=>e=.returned (.tuple #[])/\Hid (R w'))):ak 82 #[aC x,ab a,ab b,.agg #[ab c,ab d,af f,ae xa g xc]] w λe w'=>e=.returned (.tuple #[])/\Hid (R w'):=by
 go_enter func82,ntmps82;go_upto_region 1 with fail;generalize D:w.alloc _=h;have n:Hid (aj w h/\h.heap[w.heap.size]?=some (.cells #[ab c,ab d,af f,ae xa g xc] 31)):=by
  rw[<-D];exact⟨(ao _ _).alloc (am _) _,aA _ _⟩
 clear D;obtain⟨q,m⟩:∃q,q=w.heap.size:=⟨_,rfl⟩;rw[<-m];have s:Hid (h.heap[q]?=some (.cells #[ab c,ab d,af f,ae xa g xc] 31)):=by rw[m];exact n.2
 have HB:=ap n.1;have E:=ap m;clear m n;have r:Hid (aj h h.drew):=(ao _ _).drew;have z:=ap (HB.trans (r.mono HB.size));have k:=ap (ge r s);have i:Hid (∀W:World,W.heap[q]?=some (.cells #[ab c,ab d,af f,ae xa g xc] 31)->W.cell? ⟨q,0,none⟩=some (ab c)/\W.cell? ⟨q,1,none⟩=some (ab d)/\W.cell? ⟨q,2,none⟩=some (af f)/\W.cell? ⟨q,3,none⟩=some (ae xa g xc)):=λW l=>⟨ag l 0,ag l 1,ag l 2,ag l 3⟩;obtain⟨F,G,H,I⟩:=i.out h s
 go_region_held3 (λW=>W.cell? ⟨q,0,none⟩=some (ab c)/\W.cell? ⟨q,1,none⟩=some (ab d)/\W.cell? ⟨q,2,none⟩=some (af f)/\W.cell? ⟨q,3,none⟩=some (ae xa g xc))
  (first|exact i _ k|exact i _ t) ((first
   | (go_at_call 121;refine(A _ z).mono ?_;rintro e y ⟨rfl,o⟩;have t:Hid (y.heap[q]?=some (.cells #[ab c,ab d,af f,ae xa g xc] 31)):=(o.2 q (by have:=E.out;omega) (aF.1 k).1).trans k)))
 obtain⟨d0,d1,d2,d3⟩:=i.out y t;have j:=ap (B y o.1);clear F G H I A B i o t k z r HB s;by_cases u:v=0
 ·subst u;rw[if_pos rfl]at j;go_wp2_with fail;refine j.mono ?_;rintro e J ⟨rfl,p⟩;go_wp2_with fail;exact dh (v:=.tuple #[]) (by simp[results]) rfl ⟨rfl,p⟩
 ·rw[if_neg u]at j;have K:(v==0)=false:=by simpa using u
  go_wp2_with fail;refine j.mono ?_;rintro e J ⟨rfl,p⟩;go_wp2_with fail;exact dh (v:=.tuple #[]) (by simp[results]) rfl ⟨rfl,p⟩
section
variable {p:jY} {s:Sy} {d:fT} {w:World}
def FH(d:fT)(w:World){m:Nat}(x:Tm m):Prop:=In w.heap.size w m x/\ch (λq=>0<=d.ow q) m x
theorem FH.up{a m:Nat}{x:Tm m}{f:fT}{w':World}(c:FH d w x)(k:dS a d f w w'):FH f w' x:=by
 have g:=eS k.1 (D:=λb=>0<=d.ow b/\b<w.heap.size) (λb e h=>by omega) ⟨c.1,In.offB c.2 c.1⟩;exact⟨g.1,g.2.mono λb e=>by rw[k.2.1 b e.2];exact e.1⟩
theorem bj.send(o:bj p s d w){a b:Int}(z:I2 (a,b)){m:Nat}(x:Tm (m+1))(t:FH d w x)(q:bz (m+1) x=0)(A:d.wn<999999)(D:d.es.length<100000):ak 82 #[aC p.b,ab a,ab b,dq (m+1) x] w λe w'=>e=.returned (.tuple #[])/\Hid (∃j,bj p (s.send a b (cn (m+1) x)) j w'/\dS 2 d j w w'):=by
 obtain⟨i,r⟩:∃i,i=nO 12 a b (cn (m+1) x) (s.ways (a,b)).length:=⟨_,rfl⟩;refine Ei p.b a b x.1.1 x.1.2.1 x.1.2.2 x.2.1.1 x.2.2.length x.2.1.2 i w (λc=>∃d1,bj p (if i=0 then {s with ways:=iI s.ways (a,b) (s.ways (a,b)++ [cn (m+1) x])}else s) d1 c/\dS 1 d d1 w c) (λc=>∃j,bj p (s.send a b (cn (m+1) x)) j c/\dS 2 d j w c) (λc g=>?_) λc g=>?_
 ·refine((o.later g).sendW z x ((t.1.below g).mono g.size) q A).mono ?_;rintro e w' ⟨rfl,k⟩;rw[<-r]at k ⊢;obtain⟨d1,n,h⟩:=k.out;refine⟨rfl,⟨d1,n,((dS.later d g).trans h).mono (am _)⟩,λu C y=>h.1.block u y λE=>?_⟩;have:=(o.low u (by omega)).2;omega
 ·obtain⟨d1,n,h⟩:=g;have B:=t.up h;refine(n.tell (if i=0 then JA else oc) a b x.1.1 x.1.2.1 x.1.2.2 x.2.1.1 x.2.2.length x.2.1.2 (cn (m+1) x) (ku B.1 q) (by have:=h.2.2.2.1;omega)).mono ?_;rintro e w' ⟨rfl,k⟩;obtain⟨d2,f,v⟩:=k.up n;refine⟨rfl,d2,?_,(h.trans v).mono (am _)⟩;unfold Sy.send;rw[<-r];by_cases l:i=0
  ·rw[if_pos l]at f ⊢;rw[if_pos l]at f;exact f
  ·rw[if_neg l]at f ⊢;rw[if_neg l]at f;exact f
end
def fI(a c:Nat)(d b:fT)(w w':World):Prop:=bt (λq=>d.ow q≠0) w w'/\(∀q,q<w.heap.size->b.ow q=d.ow q)/\b.k<=d.k+c/\b.es.length<=d.es.length+a/\b.wn<=d.wn+a/\b.bn<=d.bn+a
theorem fI.trans{a b c e:Nat}{d d1 d2:fT}{w w1 w2:World}(j:fI a c d d1 w w1)(k:fI b e d1 d2 w1 w2):fI (a+b) (c+e) d d2 w w2:=by
 obtain⟨h,i,n,o,p,q⟩:=j;obtain⟨l,m,s,t,u,v⟩:=k;have r:=h.size;exact⟨h.trans l λf g e=>by rw[i f g]at e;exact e,λf g=>(m f (by omega)).trans (i f g),by omega,by omega,by omega,by omega⟩
theorem fI.mono{a b c e:Nat}{d d1:fT}{w w1:World}(f:fI a c d d1 w w1)(m:a<=b)(n:c<=e):fI b e d d1 w w1:=by
 obtain⟨g,h,i,j,k,l⟩:=f;exact⟨g,h,by omega,by omega,by omega,by omega⟩
theorem dS.un{a:Nat}{d d1:fT}{w w1:World}(b:dS a d d1 w w1):fI a 0 d d1 w w1:=⟨b.1.mono λq _ e=>by omega,b.2.1,by have:=b.2.2.1;omega,b.2.2.2⟩
theorem AZ{c:Type}(k j:Int)(v:c):(l:List (Int×c))->(l.map λp=>if p.1=k then (k,v)else p).find? (λp=>p.1==j)=(l.find? λp=>p.1==j).map λp=>if p.1=k then (k,v)else p
 | []=>rfl
 | a::l=>by
  rw[aN,jG,jG,AZ k j v l];by_cases b:a.1=k
  ·rw[if_pos b];simp only[b];cases k==j<;>simp[b]
  ·rw[if_neg b];cases a.1==j<;>simp[b]
theorem P1.lie2{a f:Nat}{name:ByteArray}{room:Int}{cs:Tc}{c:List Tc}{k:Nat}{M:Nat->Prop}{w:World}(d:P1 a f name room cs c k M w):∀b,M b->a<=b/\b<w.heap.size:=by
 obtain⟨base,p,n,s,o,q,r,l,m,g,h,i,j,e⟩:=d;exact e
section
variable {p:jY} {s:Sy} {d:fT} {w:World}
theorem E8(s:Sy)(k j:Int)(v:ByteArray×Tc×List Tc):(s.put k v).get j=if j=k then (s.get k).map λ_=>v else s.get j:=by
 unfold Sy.put Sy.get;simp only;rw[AZ];by_cases a:j=k
 ·subst a;rw[if_pos rfl];cases e:s.ps.find? (λp=>p.1==j)with
  | none=>rfl
  | some b=>
   have:=List.find?_some e;simp only[cv]at this;simp[this]
 ·rw[if_neg a];cases e:s.ps.find? (λp=>p.1==j)with
  | none=>rfl
  | some b=>
   have:=List.find?_some e;simp only[cv]at this;simp[this,a]
theorem uZ(s:Sy)(k:Int)(v:ByteArray×Tc×List Tc):(s.put k v).ps.map (·.1)=s.ps.map (·.1):=by
 unfold Sy.put;simp only[gz];refine jl λb _=>?_;by_cases a:b.1=k
 ·simp[a]
 ·simp[a]
theorem bj.turnP(a:bj p s d w){k:Int}{b:Nat}(y:cU d.l k=some b){nm:ByteArray}{cs m:Tc}{F i:List Tc}(S:s.get k=some (nm,cs,F)){w':World}(e:bt (λq=>d.ow q=k) w w'){N:Nat->Prop}{j:Nat}(Q:∀q,N q->d.ow q=k\/w.heap.size<=q)(T:d.k<=j)(x:P1 p.lo b nm p.room m i (j+201) N w')(P:i.length<=20):bj p (s.put k (nm,m,i)) {d with ow:=Fq d w w' k,k:=j} w'/\fI 0 (j-d.k) d {d with ow:=Fq d w w' k,k:=j} w w':=by
 have Z:=(a.key y).1;have v:=uc (t:=k) a e.size a.lo.1;have f:=ud (w':=w') (t:=k) a;have R:∀q,N q->p.lo<=q/\q<w'.heap.size:=P1.lie2 x;have t:∀{t:Int},t≠k->∀q,d.ow q=t->¬d.ow q=k:=λW q h g=>W (h.symm.trans g);have r:w'.heap[p.b]?=some (.cells (dX p s d) 74):=(e.block p.b a.lo.2 (t (by omega) p.b a.own)).trans a.box;obtain⟨y1,y2,Y⟩:=a.wyK e (t (by omega)) f rfl (qB r).1;obtain⟨G,H⟩:=a.evK e (t (by omega)) f;obtain⟨I,J,K,L,M,O⟩:=a.keys;have U:∀q∈(s.put k (nm,m,i)).ps,1<=q.1/\q.1<=s.last:=λq z=>by
  have:q.1∈(s.put k (nm,m,i)).ps.map (·.1):=b9.2 ⟨q,z,rfl⟩;rw[uZ]at this;obtain⟨X,V,h⟩:=b9.1 this;rw[<-h];exact K X V
 refine⟨⟨v,r,(f p.b (by rw[a.own];decide)).trans a.own,⟨a.pgK e (t (by omega)) f,a.pg.2⟩,a.pmK e (λq h _=>t (by omega) q h) f,⟨by rw[uZ];exact I,by rw[uZ];exact J,U,L,M,by unfold Sy.put;simpa using O⟩,λn c q=>?_,⟨y1,y2,a.wy.2.2.1,a.wy.2.2.2.1,Y⟩,a.bdK e (t (by omega)) f rfl (qB r).2,G,a.evt.1,H⟩,e.mono λq _ h=>by rw[h];omega,λq z=>if_neg (by omega),by show j<=_;omega,am _,am _,am _⟩;by_cases u:n=k
 ·subst u;have q:cU d.l n=some c:=q;rw[y]at q;obtain rfl:=aw q;refine⟨nm,m,i,by rw[E8,if_pos rfl,S];rfl,x.mono (λq g=>?_) (am _) λq g=>v q (by have g:Fq d w w' n q=n:=g;rw[g];omega),P⟩;rcases Q q g with o|o
  ·exact(f q (by rw[o];omega)).trans o
  ·exact if_pos ⟨o,(R q g).2⟩
 ·obtain⟨A,B,C,D,E⟩:=a.psK e T (t u) f v q;exact⟨A,B,C,by rw[E8,if_neg u];exact D,E⟩
end
theorem Hs(i K:Nat)(mo:Option Nat)(a b d f:Int)(g:ByteArray)(xa:Option Addr)(h xc:Nat)(v:Int)(w:World)(o R:World->Prop)(U:i<w.heap.size)(L:Hid (w.cell? ⟨i,3,none⟩=some (.map mo)))(G:Hid (∀W,aj w W->(Instr.lookup 67 (.map mo) (ab b) false).run Tryz.prog W=.ok (aC K) W))(H:Hid (∀W,aj w W->ak 85 #[aC K,.agg #[ab d,ab f,af g,ae xa h xc]] W λe w'=>e=.returned (ab v)/\Hid (o w'/\∀q,w.heap.size<=q->q<W.heap.size->w'.heap[q]?=W.heap[q]?)))(n:Hid (v=2->∀W,o W->ak 46 #[aC i,af ⟨#[108,111,115,116]⟩,ab a,ab b,.agg #[ab d,ab f,af g,ae xa h xc]] W λe w'=>e=.returned (.tuple #[])/\Hid (R w')))(l:Hid (v=6->∀W,o W->ak 48 #[aC i,ab b,ab 3] W λe w'=>e=.returned (.tuple #[])/\Hid (R w')))(m:Hid (v≠2->v≠6->∀W,o W->R W)):ak 52 #[aC i,ab a,ab b,.agg #[ab d,ab f,af g,ae xa h xc]] w λe w'=>e=.returned (.tuple #[])/\Hid (R w'):=by
 go_enter func52,ntmps52;go_upto_region 1 with fail;generalize J:w.alloc _=c;have t:Hid (aj w c/\c.heap[w.heap.size]?=some (.cells #[ab d,ab f,af g,ae xa h xc] 31)):=by
  rw[<-J];exact⟨(ao _ _).alloc (am _) _,aA _ _⟩
 clear J;obtain⟨q,s⟩:∃q,q=w.heap.size:=⟨_,rfl⟩;rw[<-s];have C:Hid (c.heap[q]?=some (.cells #[ab d,ab f,af g,ae xa h xc] 31)):=by rw[s];exact t.2
 have HB:=ap t.1;have M:=ap s;clear s t;have A:Hid (aj c c.drew):=(ao _ _).drew;have y:=ap (HB.trans (A.mono HB.size));have D:=ap (ge A C);have z:Hid (∀W:World,W.heap[q]?=some (.cells #[ab d,ab f,af g,ae xa h xc] 31)->W.cell? ⟨q,0,none⟩=some (ab d)/\W.cell? ⟨q,1,none⟩=some (ab f)/\W.cell? ⟨q,2,none⟩=some (af g)/\W.cell? ⟨q,3,none⟩=some (ae xa h xc)):=λW r=>⟨ag r 0,ag r 1,ag r 2,ag r 3⟩;obtain⟨N,O,P,Q⟩:=z.out c C;have S:c.cell? ⟨i,3,none⟩=some (.map mo):=(HB.cell (p:=⟨i,3,none⟩) U).trans L;have T:=G c.drew y
 go_region_with ((first
     | (go_at_call 85;refine(H _ y).mono ?_;rintro e k ⟨rfl,u⟩;have I:Hid (k.heap[q]?=some (.cells #[ab d,ab f,af g,ae xa h xc] 31)):=(u.2 q (by have:=M.out;omega) (aF.1 D).1).trans D)))
 all_goals
  obtain⟨d0,d1,d2,d3⟩:=z.out k I;have B:=ap u.1;clear N O P Q S T G H z u I D y A HB C;by_cases E:v=2
  ·subst E;have j:=ap (n (by simp) k B);clear n l m;go_wp2_with fail;refine j.mono ?_;rintro e V ⟨rfl,x⟩;go_wp2_with fail;exact dh (v:=.tuple #[]) (by simp[results]) rfl ⟨rfl,x⟩
  ·have X:(v==2)=false:=by simpa using E
   by_cases F:v=6
   ·subst F;have j:=ap (l (by simp) k B);clear n l m;go_wp2_with fail;refine j.mono ?_;rintro e V ⟨rfl,x⟩;go_wp2_with fail;exact dh (v:=.tuple #[]) (by simp[results]) rfl ⟨rfl,x⟩
   ·have Y:(v==6)=false:=by simpa using F
    have j:=ap (m E F k B);clear n l m;go_wp2_with fail;exact dh (v:=.tuple #[]) (by simp[results]) rfl ⟨rfl,j⟩
end Go.Proofs.YtmmahddlcldmiaaGreat
