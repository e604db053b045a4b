/- Proved here: plain facts and contracts. No condition but what each names. -/
import Derived.Test.YtmmahddlcldmiaaGreatR07
import Derived.Deep.DeepAppendWide
import Derived.MapKept
namespace Go.Proofs.YtmmahddlcldmiaaGreat
open Go.RowKit Go.Maps Go.Proofs.Tryz
open Go.RowKit
open Go.MapKept
set_option maxRecDepth 100000
set_option maxHeartbeats 4000000
variable {base n:Nat} {bp:BL} {mo:da} {g:aY->Bool} {w:ag}
def OI(base:Nat)(bp:BL)(mo:da)(n:Nat)(g:aY->Bool)(x:Int)(j:Nat)(a:ar)(L c:Nat)(w W:ag):Prop:=
 (dz g x j).length=L/\jf w.heap.size (ae a L c) (dz g x j) W/\fi base bp mo n (wo g (x::(dz g x j).take j)) W/\bE (λb=>mo=some b) w W
def OO(base:Nat)(bp:BL)(mo:da)(n:Nat)(g:aY->Bool)(x:Int)(j:Nat)(l:List Int)(d:ar)(e:Nat)(q:Nat)(a:ar)(L c:Nat)(w W:ag):Prop:=
 (gn g x j l q).length=L/\jf w.heap.size (ae a L c) (gn g x j l q) W/\jf w.heap.size (ae d l.length e) l W/\(∀b,(Value.slice a L c).ownBlock=some b->(Value.slice d l.length e).ownBlock≠some b)/\fi base bp mo n (wo g (x::(dz g x (j+1)).take (j+1))) W/\bE (λb=>mo=some b) w W
theorem tW{v:au}{a:ar}{L c:Nat}{l:List Int}(b:ud v l w)(e:v=ae a L c)(i:Nat)(k:Int)(h:l[i]?=some k):∃g o,a=some ⟨g,o,none⟩/\ai w g (o+i) (ab k):=by
 obtain⟨j,m,d,b⟩:=b.cells;rw[e]at d;injection d with f n p;subst f;exact b i k h
theorem OO.more{x:Int}{j:Nat}{l:List Int}{v:ar}{z q:Nat}{a:ar}{L c:Nat}{W:ag}(B:OO base bp mo n g x j l v z q a L c w W)(I:l.Nodup)(M:∀b,MO bp mo b->b<w.heap.size){y:Int}(N:l[q]?=some y)(J:(gn g x j l q).contains y=false){o:Obj}{f m:Nat}{h:ag}(K:h.ownsRow w.heap.size 3 1 (ae (some ⟨f,0,none⟩) (L+1) m) (L+1) (ke (gn g x j l q)++ [ab y]))(H:(W.alloc o).grownBy h (Value.slice a L c).ownBlock)(G:(Value.slice a L c).ownBlock=some f\/f=(W.alloc o).heap.size):OO base bp mo n g x j l v z (q+1) (some ⟨f,0,none⟩) (L+1) m w h:=by
 obtain⟨p,C,r,s,D,E⟩:=B;have d:gn g x j l (q+1)=gn g x j l q++ [y]:=by
  rw[qX I N,J];rfl
 have F:am W (W.alloc o):=aS _ _;have k:bE (λb=>(Value.slice a L c).ownBlock=some b) W h:=bE.trans (aR F _) (eM H) λb _ d=>d;have u:∀b,(Value.slice a L c).ownBlock=some b->w.heap.size<=b:=λb e=>(C.lt b e).1;refine⟨by rw[d,bz,p];rfl,?_,bB r k λb e d=>s b d e,?_,D.kee k λb e d=>?_,bE.trans E k λb e d=>?_⟩
 ·unfold jf;rw[d,mm,bz,p];exact K
 ·intro b e t;have A:f=b:=az e;subst A;rcases G with i|i
  ·exact s _ i t
  ·have:=(r.lt _ t).2;simp at i;omega
 ·have:=M b e;have:=u b d;omega
 ·have:=u b d;omega
theorem GK(base:Nat)(bp:BL)(mo:da)(n:Nat)(g:aY->Bool)(x:Int)(w:ag)(u:Hid (A1 g))(Z:Hid (∀b,MO bp mo b->b<w.heap.size))(X:Hid (ao 119 #[.pointer (some ⟨bp.b,bp.o,none⟩),ab x] w λe w'=>∃a L c,e=.returned (ae a L c)/\Hid (OI base bp mo n g x 0 a L c w w'))):ao 81 #[.pointer (some ⟨bp.b,bp.o,none⟩),ab x,.bool false] w λe w'=>∃v,e=.returned v/\Hid (jf w.heap.size v (tY g x) w'/\fi base bp mo n (wo g (x::tY g x)) w'/\bE (λb=>mo=some b) w w'):=by
 obtain⟨B,am,aq,au,av⟩:=bY FZ;have F:Hid (Tryz.prog.info? 3=some B/\B.zero=some (ab 0)/\B.size=1/\B.bytes=8):=⟨am,aq,au,av⟩;clear am aq au av;go_enter func81,ntmps81;go_wp2_with fail;refine X.mono ?_;rintro e bc ⟨a,L,c,rfl,M⟩;go_wp2_with fail;go_loopw [7,8] (λv q wr=>∃(d:Nat)(a:ar)(L c:Nat),v=ae a L c/\q=ab d/\d<=99/\L<=99/\Hid (OI base bp mo n g x d a L c w wr)) (λ_ q _=>100-(intOf q).toNat)
 case atStart=>exact⟨0,a,L,c,rfl,rfl,by omega,by have m:=(jw u x 0).le;have p:=M.1;omega,M⟩
 case round=>
  clear M X;obtain⟨d,a,L,c,rfl,rfl,a5,I,h⟩:=hrel;by_cases aP:d<L
  ·obtain⟨r,J⟩:∃r,(dz g x d)[d]?=some r:=⟨(dz g x d)[d]'(by rw[h.out.1];exact aP),aN _⟩;obtain⟨af,o,rfl,aG⟩:=tW h.2.1.row rfl d r J;have H:=ap J;have aC:Hid (dN r):=by
    have:=(jw u x d).rng r (aL J);unfold Hid dN;omega
   clear J;have a8:(0:Int)<=(d:Int):=by omega
   have a9:(d:Int)<(L:Int):=by omega
   have Y:=ap (sR h.2.2.1 (u.wo _) aC);go_wp2_with fail;refine Y.mono ?_;rintro e U ⟨a0,rfl,G⟩;obtain⟨l,z⟩:∃l,l=rm (wo g (x::(dz g x d).take d)) r:=⟨_,rfl⟩;rw[<-z]at G;obtain⟨j,k⟩:∃j,j=l.length:=⟨_,rfl⟩;have a4:j<=99:=by
    have:=wi (wo g (x::(dz g x d).take d)) r;rw[k,z];exact this
   obtain⟨K,C,aV⟩:∃K C,a0=ae K j C:=by
    obtain⟨aE,aF,e,_⟩:=G.out.1.row;exact⟨aE,aF,by rw[k];exact e⟩
   subst aV;have N:Hid l.Nodup:=by rw[z];exact px _ _
   have aa:Hid (∀f,(gn g x d l f).length<=99):=by rw[z];exact λf=>L6 u H f
   have aw:Hid (gn g x d l j=dz g x (d+1)):=by rw[k,z];exact yY H
   have W:Hid (OO base bp mo n g x d l K C 0 (some ⟨af,o,none⟩) L c w U):=by
    have aW:=Oc H (g:=g) (x:=x);have A:=G.out;have aU:∀b,mo=some b->b<w.heap.size:=λb e=>Z b (ak e);have aQ:bE (λb=>mo=some b) w U:=bE.trans h.2.2.2 A.2.2 λ_ _ e=>e;have ad:gn g x d l 0=dz g x d:=by simp[gn,Ag]
    have aT:jf w.heap.size (ae (some ⟨af,o,none⟩) L c) (dz g x d) U:=bB h.2.1 A.2.2 λb R e=>by
     have:=(h.2.1.lt b R).1;have:=aU b e;omega
    refine⟨by rw[ad];exact h.1,by rw[ad];exact aT,?_,?_,?_,aQ⟩
    ·rw[<-k];exact sk A.1 h.2.2.2.size
    ·intro b R aj;rw[<-k]at aj;have:=(A.1.lt b aj).1;have:=(h.2.1.lt b R).2;omega
    ·rw[<-aW];exact A.2.1
   replace k:=ap k;clear G h Y aG z;go_wp2_with fail;go_loopw [7,28] (λv q wr=>∃(f:Nat)(a:ar)(L c:Nat),v=ae a L c/\q=ab f/\f<=j/\L<=99/\Hid (OO base bp mo n g x d l K C f a L c w wr)) (λ_ q _=>j-(intOf q).toNat)
   case atStart=>exact⟨0,_,L,c,rfl,rfl,aM _,I,W⟩
   case round=>
    clear W;obtain⟨f,a,L,c,rfl,rfl,a7,I,i⟩:=hrel;by_cases aS:f<j
    ·obtain⟨s,T⟩:∃s,l[f]?=some s:=⟨l[f]'(by rw[<-k.out];exact aS),aN _⟩;obtain⟨aI,aX,rfl,a2⟩:=tW i.2.2.1.row rfl f s T;have Q:=ap T;clear T;have ba:(0:Int)<=(f:Int):=by omega
     have bb:(f:Int)<(j:Int):=by omega
     have V:=ap (xv i.2.1.row (by rw[i.out.1];omega) s);obtain⟨t,S⟩:∃t,t=(gn g x d l f).contains s:=⟨_,rfl⟩;rw[<-S]at V;have P:=ap S;clear S;go_wp2_with fail;refine V.mono ?_;rintro e D ⟨rfl,rfl⟩;cases t
     ·have a1:=ap (aa (f+1));have ay:Hid (L+1<=99):=by
       have m:=aa (f+1);have p:=i.1;rw[qX N.out Q.out,<-P.out,bz]at m;simp at m;unfold Hid;omega
      have aB:Hid (w.heap.size<=D.heap.size):=i.2.2.2.2.2.size;have aA:=ap i.2.1;have az:=ap i.1
      go_wp2_with (first
       | (at_builtin;refine wpList_append_lies _ rfl _ _ 25 rfl w.heap.size 3 B _ 1 8 underlying25 F.1 F.2.1 F.2.2.1 F.2.2.2 rfl (by decide) (ae a L c) L (ke (gn g x d l f)) rfl ((show D.ownsRow w.heap.size 3 1 (ae a L c) L (ke (gn g x d l f))from by have y:=aA.out;unfold jf at y;rw[az.out]at y;exact y).alloc _) ⟨D.heap.size,0,none⟩ 1 1 [ab s] rfl rfl (World.news_of_block (cs:= #[ab s]) (t:=3) (fr:=(0,0)) (aD D _)) (by simp[Value.oneCell']) (by decide) (by unfold maxLen;omega) (by omega) (by have:=aB.out;simp;omega) _ rfl ?_;intro a3 aH bd an al ai aR;have O:=ap (i.more N Z Q P.symm an al ai);clear an al ai aR))
      go_roundw
      case rel=>exact⟨f+1,_,L+1,aH,rfl,by go_num,by omega,ay,O⟩
      case measure=>simp[intOf];omega
     ·have O:Hid (OO base bp mo n g x d l (some ⟨aI,aX,none⟩) C (f+1) a L c w D):=by
        have y:=i.out;unfold OO at y ⊢;have e:gn g x d l (f+1)=gn g x d l f:=by
         rw[qX N.out Q.out,<-P.out];simp
        rw[e];exact y
      go_wp2_with fail;go_roundw
      case rel=>exact⟨f+1,_,L,c,rfl,by go_num,by omega,I,O⟩
      case measure=>simp[intOf];omega
    ·obtain rfl:f=j:=by omega
     have E:Hid (OI base bp mo n g x (d+1) a L c w wr):=by
      obtain⟨m,p,_,_,aK,aO⟩:=i;rw[aw.out]at m p;exact⟨m,p,aK,aO⟩
     have ax:Hid (d+1<=99):=by
      have:=(jw u x d).le;have:=(aZ.1 H).1;unfold Hid;omega
     go_wp2_with fail;go_roundw
     case rel=>exact⟨d+1,a,L,c,rfl,by go_num,ax,I,E⟩
     case measure=>simp[intOf];omega
  ·have E:Hid (dz g x d=tY g x):=Jc u (by rw[h.out.1];omega);have a6:¬(d:Int)<(L:Int):=by omega
   go_wp2_with fail
   go_ret
   obtain⟨m,p,ah,aJ⟩:=h;rw[bD (by omega),E.out]at ah;rw[E.out]at p;exact⟨_,rfl,p,ah,aJ⟩
theorem Bc(bp:BL)(x:Int)(w:ag)(R:bt)(c:Hid (ao 119 #[.pointer (some ⟨bp.b,bp.o,none⟩),ab x] w λe w'=>∃v,e=.returned v/\Hid (R w'))):ao 81 #[.pointer (some ⟨bp.b,bp.o,none⟩),ab x,.bool true] w λe w'=>e=.returned (ae none 0 0)/\R w':=by
 go_enter func81,ntmps81;go_wp2_with fail;refine c.mono ?_;rintro e d ⟨v,rfl,a⟩;go_wp2_with fail
 go_ret
 exact⟨rfl,a⟩
def p8(g:aY->Bool)(x:Int)(a:Bool):List Int:=if a then []else tY g x
theorem JS(f:fi base bp mo n g w)(h:A1 g){x:Int}(i:dN x)(d:Bool):ao 81 #[.pointer (some ⟨bp.b,bp.o,none⟩),ab x,.bool d] w λe w'=>∃v,e=.returned v/\Hid (jf w.heap.size v (p8 g x d) w'/\fi base bp mo n (wo g (x::p8 g x d)) w'/\bE (λb=>mo=some b) w w'):=by
 cases d
 ·rw[show p8 g x false=tY g x from if_neg (by decide)];refine GK base bp mo n g x w h (λb m=>(f.lt b m).2) ?_;refine(sR f h i).mono ?_;rintro e w' ⟨v,rfl,a⟩;obtain⟨j,c,e,_⟩:=a.out.1.row;subst e;exact⟨j,_,c,rfl,rfl,a.1,a.2.1,a.2.2⟩
 ·refine(Bc bp x w (λw'=>fi base bp mo n (wo g [x]) w'/\bE (λb=>mo=some b) w w') ?_).mono ?_
  ·refine(sR f h i).mono ?_;rintro e w' ⟨v,rfl,a⟩;exact⟨v,rfl,a.2⟩
  ·rw[show p8 g x true=[]from if_pos rfl];rintro e w' ⟨rfl,k,l⟩;exact⟨_,rfl,jf.nil _ _,k,l⟩
def zS:aq:=⟨#[115,112,97,119,110]⟩
def tI:aq:=⟨#[101,110,100]⟩
def lJ:aq:=⟨#[116,97,107,101]⟩
def dV:aq:=⟨#[115,101,110,100]⟩
def j9:aq:=⟨#[108,111,115,116]⟩
def sH:Tc:=((0,0,⟨#[]⟩),(none,0),[])
structure Sy where
 last:Int
 ps:List (Int×aq×Tc×List Tc)
 ways:aY->List Tc
 bonds:aY->Bool
 evs:List (aq×Int×Int×Tc)
def Sy.get(s:Sy)(k:Int):Option (aq×Tc×List Tc):=(s.ps.find? λp=>p.1==k).map (·.2)
def Sy.put(s:Sy)(k:Int)(v:aq×Tc×List Tc):Sy:={s with ps:=s.ps.map λp=>if p.1=k then (k,v)else p}
def Sy.tell(s:Sy)(wt:aq)(a b:Int)(t:Tc):Sy:={s with evs:=s.evs++ [(wt,a,b,t)]}
def Sy.add(s:Sy)(a:Int)(nm:aq)(cs:Tc):Sy:=Sy.tell {s with last:=s.last+1,ps:=s.ps++ [(s.last+1,nm,cs,[])]} zS a (s.last+1) cs
def Sy.drop(s:Sy)(x how:Int):Sy:=Sy.tell {s with ps:=s.ps.eraseP λp=>p.1==x} tI x how sH
def Sy.fin(s:Sy)(x how:Int):Sy:=(p8 s.bonds x (how==1)).foldl (λs y=>s.drop y 4) {s.drop x how with bonds:=wo s.bonds (x::p8 s.bonds x (how==1))}
def Sy.deliver(s:Sy)(room a b:Int)(t:Tc):Sy:=match s.get b with
 | none=>s
 | some (nm,cs,cms)=>if kG 13 t room cs cms=2 then s.tell j9 a b t else if kG 13 t room cs cms=6 then s.fin b 3 else if kG 13 t room cs cms=0 then s.put b (nm,cs,cms++ [t])else s
def Sy.send(s:Sy)(a b:Int)(t:Tc):Sy:=if mx 12 a b t (s.ways (a,b)).length=0 then Sy.tell {s with ways:=fK s.ways (a,b) (s.ways (a,b)++ [t])} dV a b t else s.tell j9 a b t
def Sy.link(s:Sy)(a b:Int):Sy:=if (s.get b).isSome then {s with bonds:=if vT a b=0 then fK s.bonds (js a b) true else s.bonds}else s
def Sy.may(s:Sy)(n:Nat):Bool:=decide ((s.ps.length:Int)+n<=12) && decide (s.last+n<=90)
section
variable (n:Nat) (prog:List (Bh (n+1))) (room:Int)
def lQ(nm:aq):Bool:=(gI (n+1) nm prog).isSome
def Sy.made(s:Sy)(l:List (Int×aq×Tc)):Bool:=s.may l.length && l.all λx=>lQ n prog x.2.1 && gD 13 x.2.2 room x.2.1==0
def Sy.follow(s:Sy)(a:Int)(b:Tk):Sy:=
 let s:=b.spawns.foldl (λs x=>s.add a x.2.1 x.2.2) s
 let s:=b.sends.foldl (λs x=>s.send a x.1 x.2) s
 let s:=b.links.foldl (λs x=>s.link a x) s
 if b.fate=1 then s.fin a 1 else s
def Sy.run(s:Sy)(a:Int):Sy×Int:=match s.get a with
 | none=>(s,4)
 | some (nm,cs,cms)=>if sy n room prog nm a (s.last+1) cs cms=0 then match od room prog nm a (s.last+1) cs cms with
     | none=>(s,0)
     | some b=>
      let s:=(s.put a (nm,b.state,b.mail)).tell lJ a 0 b.message
      (if b.fate=2\/b.fate=3 then s.fin a b.fate else if s.made n prog room b.spawns=false then s.fin a 2 else s.follow a b,0)
  else (s,sy n room prog nm a (s.last+1) cs cms)
def Sy.arrive(s:Sy)(a b:Int):Sy×Int:=match s.ways (a,b)with
 | []=>(s,4)
 | t::l=>
  let s:={s with ways:=fK s.ways (a,b) l}
  (if (s.get b).isSome then s.deliver room a b t else s.tell j9 a b t,0)
def Sy.inject(s:Sy)(a:Int)(k:Nat)(x:Tm k):Sy×Int:=if (s.get a).isSome=false then (s,4)else if bJ k x≠0 then (s,bJ k x)else if aT k x=false then (s,5)else (s.deliver room 0 a (cn k x),0)
def Sy.do(s:Sy)(c a b:Int)(k:Nat)(x:Tm k):Sy×Int:=if c=1 then s.run n prog room a else if c=2 then s.arrive room a b else if c=3 then s.inject room a k x else (s,1)
def Sy.start(s:Sy)(nm:aq)(k:Nat)(x:Tm k):Sy×Int:=if s.may 1=false then (s,2)else if lQ n prog nm=false then (s,4)else if gD k x room nm≠0 then (s,gD k x room nm)else (s.add 0 nm (cn k x),0)
end
def Sy.more(s a:Sy):Prop:=∃l,a.evs=s.evs++l
theorem Sy.more.refl(s:Sy):s.more s:=⟨[],by simp⟩
theorem Sy.more.trans{s t b:Sy}(a:s.more t)(k:t.more b):s.more b:=by
 obtain⟨l,a⟩:=a;obtain⟨c,k⟩:=k;exact⟨l++c,by rw[k,a,lg]⟩
theorem kS{a:Type}(f:Sy->a->Sy)(b:∀(s:Sy)(x:a),s.more (f s x)):(l:List a)->(s:Sy)->s.more (l.foldl f s)
 | [],s=>Sy.more.refl s
 | x::l,s=>(b s x).trans (kS f b l (f s x))
theorem yk(s:Sy)(wt:aq)(a b:Int)(t:Tc):s.more (s.tell wt a b t):=⟨_,rfl⟩
theorem rW(s:Sy)(x how:Int):s.more (s.fin x how):=by
 have a:s.more {s.drop x how with bonds:=wo s.bonds (x::p8 s.bonds x (how==1))}:=⟨_,rfl⟩;exact a.trans (kS _ (λs b=>⟨_,rfl⟩) _ _)
theorem rV(s:Sy)(room a b:Int)(t:Tc):s.more (s.deliver room a b t):=by
 unfold Sy.deliver;split
 ·exact Sy.more.refl s
 ·split
  ·exact yk _ _ _ _ _
  ·split
   ·exact rW _ _ _
   ·split
    ·exact⟨[],by simp[Sy.put]⟩
    ·exact Sy.more.refl s
theorem Ii(s:Sy)(a b:Int)(t:Tc):s.more (s.send a b t):=by
 unfold Sy.send;split
 ·exact⟨_,rfl⟩
 ·exact⟨_,rfl⟩
theorem Ih(s:Sy)(a b:Int):s.more (s.link a b):=by
 unfold Sy.link;split
 ·exact⟨[],by simp⟩
 ·exact Sy.more.refl s
theorem Ca(s:Sy)(a:Int)(b:Tk):s.more (s.follow a b):=by
 have d:=kS (λ(s:Sy)(x:Int×aq×Tc)=>s.add a x.2.1 x.2.2) (λs x=>⟨_,rfl⟩) b.spawns s;have e:=d.trans (kS (λ(s:Sy)(x:Int×Tc)=>s.send a x.1 x.2) (λs x=>Ii s a x.1 x.2) b.sends _);have c:=e.trans (kS (λ(s:Sy)(x:Int)=>s.link a x) (λs x=>Ih s a x) b.links _);unfold Sy.follow;simp only;split
 ·exact c.trans (rW _ _ _)
 ·exact c
theorem Nx(n:Nat)(prog:List (Bh (n+1)))(room:Int)(s:Sy)(f a b:Int)(k:Nat)(x:Tm k):s.more (s.do n prog room f a b k x).1:=by
 unfold Sy.do;split
 ·unfold Sy.run;split
  ·exact Sy.more.refl s
  ·split
   ·split
    ·exact Sy.more.refl s
    ·have c:∀d (e:aq×Tc×List Tc) t,s.more ((s.put a e).tell d a 0 t):=λd e t=>⟨_,rfl⟩;simp only;split
     ·exact(c _ _ _).trans (rW _ _ _)
     ·split
      ·exact(c _ _ _).trans (rW _ _ _)
      ·exact(c _ _ _).trans (Ca _ _ _)
   ·exact Sy.more.refl s
 ·split
  ·unfold Sy.arrive;split
   ·exact Sy.more.refl s
   ·rename_i t l _;have c:s.more {s with ways:=fK s.ways (a,b) l}:=⟨[],by simp⟩;simp only;split
    ·exact c.trans (rV _ _ _ _ _)
    ·exact c.trans (yk _ _ _ _ _)
  ·split
   ·unfold Sy.inject;split
    ·exact Sy.more.refl s
    ·split
     ·exact Sy.more.refl s
     ·split
      ·exact Sy.more.refl s
      ·exact rV _ _ _ _ _
   ·exact Sy.more.refl s
theorem fm{P:Sy->Prop}{a:Type}(f:Sy->a->Sy):(l:List a)->(∀s,∀x∈l,P s->P (f s x))->{s:Sy}->P s->P (l.foldl f s)
 | [],_,_,h=>h
 | x::l,hf,s,h=>fm f l (λs y b=>hf s y (bW _ b)) (hf s x (by simp) h)
theorem Pc{s:Sy}{k:Int}{v:aq×Tc×List Tc}(a:s.get k=some v):∃q∈s.ps,q.2=v:=by
 unfold Sy.get at a;obtain⟨q,b,rfl⟩:=cG.1 a;exact⟨q,List.mem_of_find?_eq_some b,rfl⟩
def qh(s:Sy):Prop:=∀q∈s.ps,q.2.1.size<=8
theorem qh.get{s:Sy}(b:qh s){k:Int}{nm:aq}{r:Tc×List Tc}(c:s.get k=some (nm,r)):nm.size<=8:=by
 obtain⟨e,d,a⟩:=Pc c;have:=b e d;rw[a]at this;exact this
theorem qh.add{s:Sy}(c:qh s)(a:Int){nm:aq}(d:nm.size<=8)(cs:Tc):qh (s.add a nm cs):=λq e=>by
 rcases de.1 e with b|b
 ·exact c q b
 ·rw[dC.1 b];exact d
theorem qh.drop{s:Sy}(a:qh s)(x how:Int):qh (s.drop x how):=λq b=>a q (List.mem_of_mem_eraseP b)
theorem qh.fin{s:Sy}(a:qh s)(x how:Int):qh (s.fin x how):=fm (λ(s:Sy)(y:Int)=>s.drop y 4) _ (λ_ y _ k=>k.drop y 4) (a.drop x how:)
theorem qh.put{s:Sy}(a:qh s)(k:Int){v:aq×Tc×List Tc}(d:v.1.size<=8):qh (s.put k v):=λq b=>by
 obtain⟨r,c,rfl⟩:=cu.1 b;split
 ·exact d
 ·exact a r c
theorem qh.deliver{s:Sy}(c:qh s)(room a b:Int)(t:Tc):qh (s.deliver room a b t):=by
 unfold Sy.deliver;split
 ·exact c
 ·split
  ·exact c
  ·split
   ·exact c.fin _ _
   ·split
    ·exact c.put _ (c.get ‹_›)
    ·exact c
theorem yr{k:Nat}{x:Tm k}{room:Int}{nm:aq}(a:gD k x room nm=0):nm.size<=8:=by
 unfold gD at a;split at a
 ·cases a
 ·rename_i b;simp only[ex,rk,Bool.not_eq_false,aK,cw]at b;omega
theorem qh.follow{s:Sy}(d:qh s)(a:Int)(b:Tk)(e:∀x∈b.spawns,x.2.1.size<=8):qh (s.follow a b):=by
 have c:=fm (P:=qh) (λ(s:Sy)(x:Int)=>s.link a x) b.links (λs x _ k=>by unfold Sy.link;split<;>exact k) (fm (P:=qh) (λ(s:Sy)(x:Int×Tc)=>s.send a x.1 x.2) b.sends (λs x _ k=>by unfold Sy.send;split<;>exact k) (fm (P:=qh) (λ(s:Sy)(x:Int×aq×Tc)=>s.add a x.2.1 x.2.2) b.spawns (λ_ x f k=>k.add a (e x f) x.2.2) d));unfold Sy.follow;simp only;split
 ·exact c.fin a 1
 ·exact c
theorem qh.do{n:Nat}{prog:List (Bh (n+1))}{room:Int}{s:Sy}(c:qh s)(j a b:Int)(k:Nat)(x:Tm k):qh (s.do n prog room j a b k x).1:=by
 unfold Sy.do;split
 ·unfold Sy.run;split
  ·exact c
  ·rename_i g o m h;split
   ·split
    ·exact c
    ·rename_i d _;have e:qh ((s.put a (g,d.state,d.mail)).tell lJ a 0 d.message):=c.put a (v:=(g,d.state,d.mail)) (c.get h);simp only;split
     ·exact e.fin _ _
     ·split
      ·exact e.fin _ _
      ·rename_i f;simp only[Sy.made,aK,Bool.not_eq_false,cJ,cv]at f;exact e.follow a d λx i=>yr (f.2 x i).2
   ·exact c
 ·split
  ·unfold Sy.arrive;split
   ·exact c
   ·rename_i l _;simp only;split
    ·exact qh.deliver (s:={s with ways:=fK s.ways (a,b) l}) c _ _ _ _
    ·exact c
  ·split
   ·unfold Sy.inject;split
    ·exact c
    ·split
     ·exact c
     ·split
      ·exact c
      ·exact c.deliver _ _ _ _
   ·exact c
theorem qh.start{n:Nat}{prog:List (Bh (n+1))}{room:Int}{s:Sy}(a:qh s)(nm:aq)(k:Nat)(x:Tm k):qh (s.start n prog room nm k x).1:=by
 unfold Sy.start;split
 ·exact a
 ·split
  ·exact a
  ·split
   ·exact a
   ·exact a.add 0 (yr (Decidable.not_not.1 ‹_›)) _
section
variable {p:Int} {v:aq×Tc×List Tc} {l0:List (aq×Int×Int×Tc)} {s:Sy}
theorem G6{l:List (Int×aq×Tc×List Tc)}(d:(l.map (·.1)).Nodup)(x q:Int):((l.eraseP λr=>r.1==x).find? λr=>r.1==q)=if q=x then none else l.find? λr=>r.1==q:=by
 induction l with
 | nil=>simp
 | cons r l ih=>
  obtain⟨f,g⟩:=lq.1 (by simpa using d:(r.1::l.map (·.1)).Nodup);rw[List.eraseP_cons];cases hx:r.1==x
  ·simp only[cond_false,fL];cases b:r.1==q
   ·exact ih g
   ·simp only[cv]at b;have:¬q=x:=λa=>by rw[b,a]at hx;simp at hx
    rw[if_neg this]
  ·simp only[cv]at hx;simp only[cond_true,fL];by_cases a:q=x
   ·rw[if_pos a,lj];intro h e c;simp only[cv]at c;exact f (cu.2 ⟨h,e,by rw[c,a,hx]⟩)
   ·have b:(r.1==q)=false:=by simp;omega
    rw[if_neg a,b]
end
def tp(k:aY)(l:List (aq×Int×Int×Tc)):List Tc:=l.filterMap λe=>if e.1=dV/\(e.2.1,e.2.2.1)=k then some e.2.2.2 else none
theorem AG(k:aY)(wt:aq)(a b:Int)(t:Tc):tp k [(wt,a,b,t)]=if wt=dV/\(a,b)=k then [t]else []:=by
 unfold tp;by_cases c:wt=dV/\(a,b)=k
 ·simp[c]
 ·simp[c]
theorem uN(k:aY)(l r:List (aq×Int×Int×Tc)):tp k (l++r)=tp k l++tp k r:=List.filterMap_append
theorem LM{k:aY}{l:List (aq×Int×Int×Tc)}{wt:aq}{a b:Int}{t:Tc}(c:wt≠dV):tp k (l++ [(wt,a,b,t)])=tp k l:=by
 rw[uN,AG,if_neg λd=>c d.1,dQ]
def ee(g:aY->Nat)(s:Sy):Prop:=(∀k,g k<=(tp k s.evs).length/\s.ways k=(tp k s.evs).drop (g k))/\∀e∈s.evs,e.1=dV->I2 (e.2.1,e.2.2.1)
section
variable {g:aY->Nat} {s:Sy}
theorem ee.as{a:Sy}(d:ee g s)(b:a.ways=s.ways)(c:a.evs=s.evs):ee g a:=by
 unfold ee at*;rw[b,c];exact d
theorem ee.tell(d:ee g s){wt:aq}(f:wt≠dV)(a b:Int)(t:Tc):ee g (s.tell wt a b t):=⟨λk=>by
 rw[show (s.tell wt a b t).evs=s.evs++ [(wt,a,b,t)]from rfl,LM f];exact d.1 k,λe h c=>by
 rcases de.1 h with y|y
 ·exact d.2 e y c
 ·rw[dC.1 y]at c
  exact absurd c f⟩
theorem qG:zS≠dV/\lJ≠dV/\tI≠dV/\j9≠dV:=by decide
theorem ee.add(b:ee g s)(a:Int)(nm:aq)(cs:Tc):ee g (s.add a nm cs):=ee.tell (s:={s with last:=s.last+1,ps:=s.ps++ [(s.last+1,nm,cs,[])]}) b qG.1 _ _ _
theorem ee.drop(a:ee g s)(x how:Int):ee g (s.drop x how):=ee.tell (s:={s with ps:=s.ps.eraseP λp=>p.1==x}) a qG.2.2.1 _ _ _
theorem ee.fin(b:ee g s)(x how:Int):ee g (s.fin x how):=
 fm (P:=ee g) (λ(s:Sy)(a:Int)=>s.drop a 4) _ (λ_ a _ k=>k.drop a 4) (s:={s.drop x how with bonds:=wo s.bonds (x::p8 s.bonds x (how==1))}) (b.drop x how)
theorem ee.deliver(c:ee g s)(room a b:Int)(t:Tc):ee g (s.deliver room a b t):=by
 unfold Sy.deliver;split
 ·exact c
 ·split
  ·exact c.tell qG.2.2.2 _ _ _
  ·split
   ·exact c.fin _ _
   ·split
    ·exact c.as rfl rfl
    ·exact c
theorem IY{N L:Nat}{a b:Int}{x:Tm (N+1)}(c:mx N a b x L=0):I2 (a,b):=by
 unfold mx gQ at c;unfold I2 dN;split at c
 ·cases c
 ·rename_i d;simp only[Ln,pJ,not_or,Bool.not_eq_false,cw]at d;simp only;omega
theorem ee.send(d:ee g s)(a b:Int)(t:Tc):ee g (s.send a b t):=by
 unfold Sy.send;split
 ·rename_i l;refine⟨λk=>?_,λc m h=>?_⟩;rotate_left
  ·rcases de.1 m with f|f
   ·exact d.2 c f h
   ·rw[dC.1 f];exact IY l
  have c:tp k (Sy.tell {s with ways:=fK s.ways (a,b) (s.ways (a,b)++ [t])} dV a b t).evs=tp k s.evs++if (a,b)=k then [t]else []:=by
   rw[show (Sy.tell {s with ways:=fK s.ways (a,b) (s.ways (a,b)++ [t])} dV a b t).evs=s.evs++ [(dV,a,b,t)]from rfl,uN,AG];simp
  obtain⟨i,j⟩:=d.1 k;rw[c,show (Sy.tell {s with ways:=fK s.ways (a,b) (s.ways (a,b)++ [t])} dV a b t).ways=fK s.ways (a,b) (s.ways (a,b)++ [t])from rfl];by_cases e:(a,b)=k
  ·subst e;rw[if_pos rfl,cE,j,ny i,bz];exact⟨by omega,rfl⟩
  ·rw[if_neg e,bK _ _ λh=>e h.symm,dQ];exact⟨i,j⟩
 ·exact d.tell qG.2.2.2 _ _ _
theorem ee.link(c:ee g s)(a b:Int):ee g (s.link a b):=by
 unfold Sy.link;split
 ·exact c.as rfl rfl
 ·exact c
theorem ee.follow(d:ee g s)(a:Int)(b:Tk):ee g (s.follow a b):=by
 have e:=fm (P:=ee g) (λ(s:Sy)(x:Int×aq×Tc)=>s.add a x.2.1 x.2.2) b.spawns (λ_ x _ k=>k.add _ _ _) d;have f:=fm (P:=ee g) (λ(s:Sy)(x:Int×Tc)=>s.send a x.1 x.2) b.sends (λ_ x _ k=>k.send _ _ _) e;have c:=fm (P:=ee g) (λ(s:Sy)(x:Int)=>s.link a x) b.links (λ_ x _ k=>k.link _ _) f;unfold Sy.follow;simp only;split
 ·exact c.fin _ _
 ·exact c
theorem ee.do(c:ee g s){n:Nat}{prog:List (Bh (n+1))}{room i a b:Int}(l:i≠2)(k:Nat)(x:Tm k):ee g (s.do n prog room i a b k x).1:=by
 unfold Sy.do;rw[if_neg l];split
 ·unfold Sy.run;split
  ·exact c
  ·split
   ·split
    ·exact c
    ·have j:∀f d t,ee g ((s.put a d).tell f a 0 t)\/f=dV:=λf d t=>by
       by_cases e:f=dV
       ·exact ak e
       ·exact aj (ee.tell (c.as rfl rfl) e _ _ _)
     have h:∀d t,ee g ((s.put a d).tell lJ a 0 t):=λd t=>(j lJ d t).elim id λe=>absurd e qG.2.1;simp only;split
     ·exact(h _ _).fin _ _
     ·split
      ·exact(h _ _).fin _ _
      ·exact(h _ _).follow _ _
   ·exact c
 ·split
  ·unfold Sy.inject;split
   ·exact c
   ·split
    ·exact c
    ·split
     ·exact c
     ·exact c.deliver _ _ _ _
  ·exact c
theorem xu{q:Int}(a:s.get q=none)(y how:Int):(s.drop y how).get q=none:=by
 unfold Sy.get at*;rw[Option.map_eq_none_iff,lj]at*;intro c b;exact a c (List.mem_of_mem_eraseP b)
theorem Na(d:(s.ps.map (·.1)).Nodup)(x how:Int):(s.fin x how).get x=none/\∃l,(s.fin x how).evs=s.evs++(tI,x,how,sH)::l:=by
 constructor
 ·refine fm (P:=λs=>s.get x=none) (λ(s:Sy)(a:Int)=>s.drop a 4) _ (λ_ a _ k=>xu k a 4) (s:={s.drop x how with bonds:=wo s.bonds (x::p8 s.bonds x (how==1))}) ?_;show ((s.ps.eraseP λb=>b.1==x).find? λb=>b.1==x).map (·.2)=none;rw[G6 d,if_pos rfl];rfl
 ·obtain⟨l,c⟩:=kS (λ(s:Sy)(a:Int)=>s.drop a 4) (λ_ _=>⟨_,rfl⟩) (p8 s.bonds x (how==1)) {s.drop x how with bonds:=wo s.bonds (x::p8 s.bonds x (how==1))};refine⟨l,c.trans ?_⟩;show s.evs++ [(tI,x,how,sH)]++l=_;simp
def MA(s c:Sy)(a b:Int)(t:Tc):Prop:=
 (c.evs=s.evs++ [(j9,a,b,t)]/\c.get b=s.get b)\/(∃f e d,s.get b=some (f,e,d)/\c.get b=some (f,e,d++ [t]))\/(∃g,s.get b=some g)/\c.get b=none/\∃l,c.evs=s.evs++(tI,b,3,sH)::l
theorem ee.arrive(m:ee g s)(G:(s.ps.map (·.1)).Nodup)(I:∀k,∀t∈s.ways k,bJ 13 t=0/\aT 13 t=true){n:Nat}{prog:List (Bh (n+1))}{room a b:Int}{k:Nat}{x:Tm k}(j:(s.do n prog room 2 a b k x).2=0):∃t,(tp (a,b) s.evs)[g (a,b)]?=some t/\ee (fK g (a,b) (g (a,b)+1)) (s.do n prog room 2 a b k x).1/\MA s (s.do n prog room 2 a b k x).1 a b t:=by
 obtain⟨K,o⟩:=m.1 (a,b);have F:s.do n prog room 2 a b k x=s.arrive room a b:=by
  unfold Sy.do;rw[if_neg (by decide),if_pos rfl]
 rw[F]at j ⊢;unfold Sy.arrive at j ⊢;cases d:s.ways (a,b)with
 | nil=>
  rw[d]at j;cases j
 | cons t l=>
  rw[d]at o;obtain⟨t1,t2⟩:=I (a,b) t (by rw[d];simp);have y:(tp (a,b) s.evs)[g (a,b)]?=some t:=by
   have:=congrArg (λl=>l[0]?) o;simpa using this.symm
  have u:ee (fK g (a,b) (g (a,b)+1)) {s with ways:=fK s.ways (a,b) l}:=⟨λk=>by
   show _<=(tp k s.evs).length/\fK s.ways (a,b) l k=_;by_cases q:k=(a,b)
   ·subst q;rw[cE,cE];have:=aZ.1 y;refine⟨by obtain⟨L,_⟩:=this;omega,?_⟩;have E:=congrArg (λl=>l.drop 1) o;simpa [List.drop_drop,Nat.add_comm]using E
   ·rw[bK _ _ q,bK _ _ q]
    exact m.1 k,m.2⟩
  refine⟨t,y,?_⟩;simp only;have p:∀A,Sy.get {s with ways:=fK s.ways (a,b) l} A=s.get A:=λ_=>rfl;cases f:s.get b with
  | none=>
   rw[p,f,if_neg (by simp)];exact⟨u.tell qG.2.2.2 _ _ _,aj ⟨rfl,rfl⟩⟩
  | some i=>
   obtain⟨z,e,c⟩:=i;rw[p,f,if_pos (by simp)];refine⟨u.deliver _ _ _ _,?_⟩;unfold Sy.deliver;rw[p,f];simp only;by_cases d2:kG 13 t room e c=2
   ·rw[if_pos d2];exact aj ⟨rfl,rfl⟩
   rw[if_neg d2];by_cases d6:kG 13 t room e c=6
   ·rw[if_pos d6];have v:=Na (s:={s with ways:=fK s.ways (a,b) l}) G b 3;exact ak (ak ⟨⟨_,f⟩,v.1,v.2⟩)
   rw[if_neg d6];have d0:kG 13 t room e c=0:=by
    have d:kG 13 t room e c=if 20<=c.length then 2 else if ((e::c).map (sz 13)).sum+sz 13 t<=room then 0 else 6:=by
     unfold kG;rw[t1,t2];simp
    rw[d]at d2 d6 ⊢;by_cases C:20<=c.length
    ·exact absurd (if_pos C) d2
    ·rw[if_neg C]at d6 ⊢;by_cases D:((e::c).map (sz 13)).sum+sz 13 t<=room
     ·exact if_pos D
     ·exact absurd (if_neg D) d6
   rw[if_pos d0];refine ak (aj ⟨z,e,c,f,?_⟩);have H:∀(l:List (Int×aq×Tc×List Tc))(i:aq×Tc×List Tc),(l.find? λh=>h.1==b).isSome=true->((l.map λh=>if h.1=b then (b,i)else h).find? λh=>h.1==b).map (·.2)=some i:=by
    intro l i
    induction l with
    | nil=>simp
    | cons B l ih=>
     intro w;by_cases d:B.1=b
     ·simp[d]
     ·have r:(B.1==b)=false:=by simpa using d
      rw[fL,r]at w;rw[aV,if_neg d,fL,r];exact ih w
   refine H s.ps (z,e,c++ [t]) ?_;unfold Sy.get at f;cases J:s.ps.find? λh=>h.1==b with
   | none=>rw[J]at f;cases f
   | some=>rfl
end
def CM(a n:Nat)(g:aY->Nat)(w:ag):Prop:=∃D,w.ownsMap Tryz.prog 44 l7 a n D/\∀k,I2 k->D.atKey (kl k) (.held (ab 0))=.held (ab (g k))
theorem Ft(w:ag):(zeroValue 3).run Tryz.prog w=.ok (ab 0) w:=by kernel_rfl
variable {mb n:Nat} {g:aY->Nat} {w:ag}
theorem CM.lt(a:CM mb n g w):mb<w.heap.size:=by
 obtain⟨c,b,_⟩:=a;exact b.lt
theorem CM.kept(c:CM mb n g w){w':ag}(h:w'.heap[mb]?=w.heap[mb]?):CM mb n g w':=by
 obtain⟨a,⟨es,b,d,e⟩,f⟩:=c;exact⟨a,⟨es,b,h.trans d,e⟩,f⟩
theorem CM.new(w:ag):CM w.heap.size 0 (λ_=>0) (w.alloc (.map #[] 0)):=⟨.map [],nI w _ _ _,λk _=>by simp[DataW.atKey]⟩
theorem CM.look(d:CM mb n g w){k:aY}(b:I2 k):(Instr.lookup 52 (.map (some mb)) (pk k) false).run Tryz.prog w=.ok (ab (g k)) w:=by
 obtain⟨i,e,f⟩:=d;obtain⟨j,ps,h,c⟩:=e.lookup dI underlying52 (Ft w) (zd:=.held (ab 0)) (zp:=[]) rfl (dJ b);rw[f k b]at c;have a:=Cw c;injection a with a;rw[h,a]
theorem CM.entry(P:CM mb n g w){k:aY}(c:I2 k)(ai:n<1000000):∃(v0:au)(B:Nat)(w1:ag),(Instr.mapEntry 52 (.map (some mb)) (pk k)).run Tryz.prog w=.ok (.tuple #[v0,goInt B]) w1/\bE (λb=>b=mb) w w1/\w1.heap.size=w.heap.size/\CM mb (n+1) g w1/\ ∀(w2:ag)(x:Nat),w2.heap[mb]?=w1.heap[mb]? ->∃l,(Instr.entryStore 52 (.map (some mb)) (goInt B) (ab x)).run Tryz.prog w2=.ok () l/\CM mb (n+1) (fK g k x) l/\bE (λb=>b=mb) w2 l/\l.heap.size=w2.heap.size:=by
 obtain⟨C,⟨es,f,a,m,K,I⟩,y⟩:=P;have q:w.ownsMap Tryz.prog 44 l7 mb n C:=⟨es,f,a,m,K,I⟩;obtain⟨v0,B,v,u,F,aj,Y⟩:=WideElems.entry_then_store (e:=3) mr.law underlying52 Ft a m (dJ c);have Z:w.mapTurned (ChangeMaps.setBlock w mb (.map v u)) mb:=⟨es,f,v,u,a,rfl⟩;obtain⟨E,ae⟩:=gq Z;refine⟨v0,B,_,F,E,ae,?_,λw2 x ad=>?_⟩
 ·have o:=mr.law;have S:=CM.look ⟨C,q,y⟩ c;rcases o.find w (dJ c) es.toList m.keys with⟨A,t⟩|⟨j,p,A,t,L⟩
  ·have h:(Instr.mapEntry 52 (.map (some mb)) (pk k)).run Tryz.prog w=.ok (.tuple #[ab 0,goInt f]) (ChangeMaps.setBlock w mb (.map (es.push ⟨pk k,ab 0,f⟩) (f+1))):=by
     simp[Instr.mapEntry,cC underlying52,iX a,o.check w false (dJ c),A,lu _ a,Result.andThen,ChangeMaps.setBlock]
   have ah:(Instr.mapUpdate 52 (.map (some mb)) (pk k) (ab 0)).run Tryz.prog w=.ok () (ChangeMaps.setBlock w mb (.map (es.push ⟨pk k,ab 0,f⟩) (f+1))):=by
    simp[Instr.mapUpdate,cC underlying52,iX a,o.check w false (dJ c),A,lu _ a,Result.andThen,ChangeMaps.setBlock]
   rw[F]at h;injection h with _ h;rw[h];obtain⟨l,s,r,_⟩:=q.store (d:=.held (ab 0)) (ps:=[]) dI underlying52 (by unfold maxLen;omega) (dJ c) rfl;rw[ah]at s;injection s with _ e;rw[<-e]at r;have Q:g k=0:=by
    rcases Maps.fit_look false dI underlying52 (Ft w) a m (dJ c)with⟨z,_,_⟩|⟨N,_,T,E,_,_⟩
    ·rw[S]at z;injection z with z _;simpa using z
    ·exact absurd E (t N T)
   refine⟨_,r,λj i=>?_⟩;rw[sO q.isMap c i];split
   ·rename_i e;rw[e,Q];rfl
   ·exact y j i
  ·have i:es[j]?=some p:=by simpa using t
   have X:es.modify j (λe=>{e with key:=pk k})=es:=by
    apply Array.ext';rw[Array.toList_modify,ChangeMaps.modify_eq_set _ _ _ _ t];have:({p with key:=pk k}:MapEntry)=p:=by rw[<-L]
    rw[this];exact WideElems.set_self _ _ _ t
   have h:(Instr.mapEntry 52 (.map (some mb)) (pk k)).run Tryz.prog w=.ok (.tuple #[p.val,goInt p.born]) (ChangeMaps.setBlock w mb (.map es f)):=by
    simp[Instr.mapEntry,cC underlying52,iX a,o.check w false (dJ c),A,i,L,o.stays w (dJ c),X,lu _ a,Result.andThen,ChangeMaps.setBlock]
   rw[F]at h;injection h with _ h;rw[h];exact⟨C,World.ownsMap.mono ⟨es,f,jA a _,m,K,I⟩ (fN n),y⟩
 ·have D:w2.heap[mb]?=some (.map v u):=ad.trans (jA a _);obtain⟨H,G,U,V⟩:=Y w2 (ab x) D;have aa:w2.mapTurned (ChangeMaps.setBlock w2 mb (.map H G)) mb:=⟨v,u,H,G,D,rfl⟩;obtain⟨R,af⟩:=gq aa;obtain⟨l,s,r,_⟩:=q.store (d:=.held (ab x)) (ps:=[]) dI underlying52 (by unfold maxLen;omega) (dJ c) rfl;rw[V]at s;injection s with _ e;rw[<-e]at r;obtain⟨O,M,J,W⟩:=r;rw[jA a]at J;refine⟨_,U,⟨_,⟨O,M,(jA D _).trans J,W⟩,λj i=>?_⟩,R,af⟩;rw[sO q.isMap c i];unfold fK;split
  ·rfl
  ·exact y j i
variable {P:Program} {md:Region.Mode} {ops:Array Oper} {Q:Exit->Act->bt} {S:bt} {X:Nat}
theorem Mt(i:Nat){d:Oper}{v:au}{f:Nat}{e:Array Bool}{a:Act}{w:ag}(l:ops[i]?=some d)(b:(Region.noSelect ops && Region.free md ops e i && (Region.ready md ops e).contains i && AS md ops X i)=true)(h:∀c a w,Q (.panic c) (a.put d.dst v) w->Q (.panic c) a w)(k:d.guard=none)(m:∀w,S w->(execOp a.eval d).run P w=.ok (.value v) w)(j:S w)(g:ko P md ops Q S X f (e.setIfInBounds i true) (a.put d.dst v) w):ko P md ops Q S X (f+1) e a w:=by
 simp only[aK]at b;exact bi l b.1.1.1 b.1.1.2 b.1.2 b.2 h k m j g
theorem KD:(Tryz.prog.info? 54).map (λi=>(i.zero,i.size,i.bytes))=some (some (.agg #[.string ⟨#[]⟩,.int .i64 0,.int .i64 0,.int .i64 0,.int .i64 0,.string ⟨#[]⟩,.slice none 0 0]),7,88):=by kernel_rfl
def Oq(base:Nat)(wt:ByteArray)(a b:Int)(f:Option Addr)(L h:Nat)(xs:List Value)(R:World->World->Int->Int->ByteArray->Option Addr->Nat->Nat->Prop)(w i:World)(g c:Nat):Prop:=
 ∃d e y0 y1 y2 ya yl yc,Below w.heap.size w d/\Below d.heap.size d e/\R d e y0 y1 y2 ya yl yc/\bE (λj=>(Value.slice f L h).ownBlock=some j) e i/\i.ownsRow base 54 7 (.slice (some ⟨g,0,none⟩) (L+1) c) (L+1) (xs++ [.string wt,.int .i64 a,.int .i64 b,.int .i64 y0,.int .i64 y1,.string y2,.slice ya yl yc])/\((Value.slice f L h).ownBlock=some g\/e.heap.size<=g)
theorem E7(base m:Nat)(wt:ByteArray)(a b A B:Int)(C:ByteArray)(xa:Option Addr)(D xc:Nat)(n:Option Addr)(L q:Nat)(xs:List Value)(R:World->World->Int->Int->ByteArray->Option Addr->Nat->Nat->Prop)(w:World)(aT:L<=100000)(X:m<w.heap.size)(aU:base<=w.heap.size)(Z:Hid (w.cell? ⟨m,6,none⟩=some (.slice n L q)/\w.frozen? ⟨m,6,none⟩=false))(ag:Hid (w.ownsRow base 54 7 (.slice n L q) L xs))(ab:Hid ((Value.slice n L q).ownBlock≠some m))(aa:Hid (∀W,Below w.heap.size w W->Calls Tryz.prog 56 #[.agg #[.int .i64 A,.int .i64 B,.string C,.slice xa D xc]] W λe w'=>∃y0 y1 y2 ya yl yc,e=.returned (.agg #[.int .i64 y0,.int .i64 y1,.string y2,.slice ya yl yc])/\Hid (Below W.heap.size W w'/\R W w' y0 y1 y2 ya yl yc))):Calls Tryz.prog 46 #[.pointer (some ⟨m,0,none⟩),.string wt,.int .i64 a,.int .i64 b,.agg #[.int .i64 A,.int .i64 B,.string C,.slice xa D xc]] w λe w'=>e=.returned (.tuple #[])/\Hid (∃g c r,w'=r.setCell ⟨m,6,none⟩ (.slice (some ⟨g,0,none⟩) (L+1) c)/\Oq base wt a b n L q xs R w r g c):=by
 obtain⟨aH,an,au,aw,ax⟩:=bY KD;have M:=ap (⟨an,au,aw,ax⟩:_/\_/\_/\_);clear an au aw ax;go_enter func46,ntmps46;go_upto_region 1 with fail;generalize ay:w.alloc _=s;have y:Hid (Below w.heap.size w s/\s.heap[w.heap.size]?=some (.cells #[.int .i64 A,.int .i64 B,.string C,.slice xa D xc] 31)):=by
  rw[<-ay];exact⟨(aA _ _).alloc (av _) _,aD _ _⟩
 clear ay;obtain⟨h,T⟩:∃h,h=w.heap.size:=⟨_,rfl⟩;rw[<-T];rw[<-T]at y;have O:=ap T;clear T;have N:Hid (∀W:World,Below s.heap.size s W->W.cell? ⟨m,6,none⟩=some (.slice n L q)/\W.cell? ⟨h,0,none⟩=some (.int .i64 A)/\W.cell? ⟨h,1,none⟩=some (.int .i64 B)/\W.cell? ⟨h,2,none⟩=some (.string C)/\W.cell? ⟨h,3,none⟩=some (.slice xa D xc)):=λW d=>by
  have Q:=(d.block h (aI.1 y.2).1).trans y.2;have aC:=(O.out▸y.out.1:Below w.heap.size w s).trans (d.mono (O.out▸y.out.1:Below w.heap.size w s).size);exact⟨(aC.cell (p:=⟨m,6,none⟩) X).trans Z.1,ah Q 0,ah Q 1,ah Q 2,ah Q 3⟩
 have G:Hid (Below s.heap.size s s.drew):=(aA _ _).drew;have z:Hid (Below w.heap.size w s):=by
  have d:=y.1;rw[O.out]at d;exact d
 have u:=N _ G;refine wp_region_noPanic ?_;refine jZ (λW=>W.cell? ⟨m,6,none⟩=some (.slice n L q)/\W.cell? ⟨h,0,none⟩=some (.int .i64 A)/\W.cell? ⟨h,1,none⟩=some (.int .i64 B)/\W.cell? ⟨h,2,none⟩=some (.string C)/\W.cell? ⟨h,3,none⟩=some (.slice xa D xc)) 15 (by kernel_rfl) ?_
 try simp only[ew]
 refine Mt 0 (v:= ?_) rfl (by kernel_rfl) (λ_ _ _ d=>d) rfl ?_ u ?_;rotate_left
 ·intro w' f
  try dsimp only at f
  go_simp
  try with_reducible rfl
 try simp only[Act.put,co]
 refine Mt 1 (v:= ?_) rfl (by kernel_rfl) (λ_ _ _ d=>d) rfl ?_ u ?_;rotate_left
 ·intro w' f
  try dsimp only at f
  go_simp
  try with_reducible rfl
 try simp only[Act.put]
 refine Mt 2 (v:= ?_) rfl (by kernel_rfl) (λ_ _ _ d=>d) rfl ?_ u ?_;rotate_left
 ·intro w' f
  try dsimp only at f
  go_simp
  try with_reducible rfl
 try simp only[Act.put]
 refine Mt 3 (v:= ?_) rfl (by kernel_rfl) (λ_ _ _ d=>d) rfl ?_ u ?_;rotate_left
 ·intro w' f
  try dsimp only at f
  go_simp
  try with_reducible rfl
 try simp only[Act.put]
 refine Mt 4 (v:= ?_) rfl (by kernel_rfl) (λ_ _ _ d=>d) rfl ?_ u ?_;rotate_left
 ·intro w' f
  try dsimp only at f
  go_simp
  try with_reducible rfl
 try simp only[Act.put]
 refine Mt 5 (v:= ?_) rfl (by kernel_rfl) (λ_ _ _ d=>d) rfl ?_ u ?_;rotate_left
 ·intro w' f
  try dsimp only at f
  go_simp
  try with_reducible rfl
 try simp only[Act.put]
 refine Mt 6 (v:= ?_) rfl (by kernel_rfl) (λ_ _ _ d=>d) rfl ?_ u ?_;rotate_left
 ·intro w' f
  try dsimp only at f
  go_simp
  try with_reducible rfl
 try simp only[Act.put]
 refine Mt 7 (v:= ?_) rfl (by kernel_rfl) (λ_ _ _ d=>d) rfl ?_ u ?_;rotate_left
 ·intro w' f
  try dsimp only at f
  go_simp
  try with_reducible rfl
 try simp only[Act.put]
 refine Mt 8 (v:= ?_) rfl (by kernel_rfl) (λ_ _ _ d=>d) rfl ?_ u ?_;rotate_left
 ·intro w' f
  try dsimp only at f
  go_simp
  try with_reducible rfl
 try simp only[Act.put]
 refine dr (i:=9) (by kernel_rfl) rfl rfl (λx l=>?_) (by decide)
 go_simp
 refine(aa _ (z.trans (G.mono z.size))).mono ?_;rintro e j ⟨y0,y1,y2,ya,yl,yc,rfl,I⟩;have E:=ap (G.trans (I.1.mono G.size));have S:=N j E;refine l _ _ (λ_=>S) (λ_=>?_);clear l x
 try simp only[Act.put,co,dE,dD]
 refine Mt 10 (v:= ?_) rfl (by kernel_rfl) (λ_ _ _ d=>d) rfl ?_ S ?_;rotate_left
 ·intro w' f
  try dsimp only at f
  go_simp
  try with_reducible rfl
 try simp only[Act.put,co]
 have F:=ap (z.trans (E.mono z.size));obtain⟨o,ao⟩:∃o:Obj,o=.cells #[.string wt,.int .i64 a,.int .i64 b,.int .i64 y0,.int .i64 y1,.string y2,.slice ya yl yc] 54:=⟨_,rfl⟩;have K:Hid (Below j.heap.size j (j.alloc o)):=(aA _ _).alloc (av _) o;have ai:=ap (N _ (E.trans (K.mono E.size)));have ae:Hid ((j.alloc o).ownsRow base 54 7 (.slice n L q) L xs):=bB ag (aR (F.trans (K.mono F.size)) λ_=>False) λ_ _ d=>d;have ad:Hid ((j.alloc o).heap[j.heap.size]?=some o):=aD j o;have U:Hid ((j.alloc o).heap.size=j.heap.size+1):=(show _=_ by simp);rw[ao]at K ai ae ad U;clear ao o;refine dr (i:=11) (by kernel_rfl) rfl rfl (λx l=>?_) (by decide)
 go_simp
 refine l _ _ (λ_=>ai) (λaB=>?_);clear l x
 try simp only[Act.put,co,dE,dD]
 refine dr (i:=12) (by kernel_rfl) rfl rfl (λx l=>?_) (by decide);refine wp_append_lies _ _ _ 38 rfl base 54 aH _ 7 88 underlying38 M.1 M.2.1 M.2.2.1 M.2.2.2 rfl (by decide) (.slice n L q) L xs rfl ae ⟨j.heap.size,0,none⟩ 1 1 [.string wt,.int .i64 a,.int .i64 b,.int .i64 y0,.int .i64 y1,.string y2,.slice ya yl yc] rfl rfl (World.news_of_block (cs:= #[.string wt,.int .i64 a,.int .i64 b,.int .i64 y0,.int .i64 y1,.string y2,.slice ya yl yc]) (t:=54) (fr:=(0,0)) ad) (by simp[Value.oneCell']) (by decide) (by unfold maxLen;omega) (by omega) (by have:=U.out;have:=F.size;omega) _ rfl ?_;intro P aj r aq am ak aE;have H:Hid (bE (λaK=>(Value.slice n L q).ownBlock=some aK) j r):=bE.trans (aR K _) (eM am) λ_ _ e=>e;have Y:Hid ((Value.slice n L q).ownBlock=some P\/j.heap.size<=P):=ak.imp id λe=>by have:=U.out;omega
 have af:=ap aq;have J:Hid ((r.cell? ⟨m,6,none⟩=some (.slice n L q)/\r.cell? ⟨h,0,none⟩=some (.int .i64 A)/\r.cell? ⟨h,1,none⟩=some (.int .i64 B)/\r.cell? ⟨h,2,none⟩=some (.string C)/\r.cell? ⟨h,3,none⟩=some (.slice xa D xc))/\r.frozen? ⟨m,6,none⟩=false):=by
  have aF:¬(Value.slice n L q).ownBlock=some h:=λe=>by
   have:=(ag.lt h e).2;have:=O.out;omega
  have aG:h<j.heap.size:=by
   have:=E.size;have:=(aI.1 y.2).1;omega
  have ar:m<j.heap.size:=aW X F.size;obtain⟨aL,aM,aN,aO,aP⟩:=S;have k:=λaJ=>H.cell aJ aG aF;refine⟨⟨(H.cell 6 ar ab).trans aL,(k 0).trans aM,(k 1).trans aN,(k 2).trans aO,(k 3).trans aP⟩,?_⟩;have al:=Z.2;unfold World.frozen? at al ⊢;rw[H.out.block m ar ab.out,F.out.block m X];exact al
 clear aq am ak aE;refine l _ _ (λ_=>J.1) (λV=>?_);clear l x
 try simp only[Act.put,co]
 refine dr (i:=13) (by kernel_rfl) rfl rfl (λx l=>?_) (by decide)
 go_simp
 refine l _ _ (λ_=>V) (λ_=>?_);clear l x
 try simp only[Act.put,co,dE,dD]
 refine Mt 14 (v:= ?_) rfl (by kernel_rfl) (λ_ _ _ d=>d) rfl ?_ V ?_;rotate_left
 ·intro w' f
  try dsimp only at f
  go_simp
  try with_reducible rfl
 try simp only[Act.put,co]
 have aS:=J.2;have aQ:=J.1.1;refine jY (by kernel_rfl) rfl rfl (by kernel_rfl) (λx l=>?_)
 go_simp
 refine l _ _ (NoPanic.normal ?_);clear l x
 try simp only[Act.put,co,dE,dD]
 have az:Hid (Oq base wt a b n L q xs R w r P aj):=⟨s.drew,j,y0,y1,y2,ya,yl,yc,z.trans (G.mono z.size),I.1,I.2,H,af,Y⟩;clear N aa J af Y H I u V aB S;exact dL (v:=.tuple #[]) (by simp[results]) rfl ⟨rfl,P,aj,r,rfl,az⟩
def AX(b:Nat):au:=aH b
def xk{b:Type}(f:b->au)(w:ag)(mb:Nat)(l:List (Int×b)):Prop:=∃es a,w.heap[mb]?=some (.map es a)/\es.toList.map (λe=>(e.key,e.val))=l.map (λp=>(ab p.1,f p.2))/\Stamped es a
def dl{a:Type}(l:List (Int×a))(k:Int):Option a:=(l.find? λp=>p.1==k).map (·.2)
section
variable {α:Type} {f:α->au}
theorem FY(k:Int):(es:List MapEntry)->(l:List (Int×α))->(i:Nat)->es.map (λe=>(e.key,e.val))=l.map (λp=>(ab p.1,f p.2))-> Instr.findNow (.int .i64) (ab k) es i=some ((l.findIdx? (λp=>p.1==k)).map λj=>(i+j,((dl l k).map f).getD undef))
 | [],[],_,_=>rfl
 | [],_::_,_,h=>by simp at h
 | _::_,[],_,h=>by simp at h
 | e::es,p::l,i,h=>by
  rw[aV,aV,lh]at h;obtain⟨b,g⟩:=h;have d:e.key=ab p.1:=(Prod.mk.inj b).1;have n:e.val=f p.2:=(Prod.mk.inj b).2;have ih:=FY k es l (i+1) g;by_cases a:p.1=k
  ·have c:(k==p.1)=true:=by simp[a]
   simp[Instr.findNow,Instr.sameNow,d,n,a,List.findIdx?_cons,dl]
  ·have c:(k==p.1)=false:=by simpa using λe=>a e.symm
   have m:(p.1==k)=false:=by simpa using a
   rw[Instr.findNow,d];simp only[Instr.sameNow,dj,c];rw[ih];simp only[List.findIdx?_cons,dl,fL,m];congr 1;cases List.findIdx? (λp=>p.1==k) l with
   | none=>rfl
   | some j=>simp;omega
theorem nU{w:ag}{es:Array MapEntry}{l:List (Int×α)}(k:Int)(b:es.toList.map (λe=>(e.key,e.val))=l.map λp=>(ab p.1,f p.2)):(Instr.findKey 3 (ab k) es.toList).run Tryz.prog w=.ok ((l.findIdx? (λp=>p.1==k)).map λj=>(j,((dl l k).map f).getD undef)) w:=by
 have c:=underlying3;have a:=FY k es.toList l 0 b;simp only[cT]at a;simp[Instr.findKey,cC c,Result.andThen,a]
theorem lN(w:ag)(em:Bool)(k:Int):(Instr.checkKey em 10000 3 (ab k)).run Tryz.prog w=.ok () w:=by
 have a:=underlying3;unfold Instr.checkKey;simp[cC a,Result.andThen]
theorem zY{l:List (Int×α)}{k:Int}(a:dl l k=none):l.findIdx? (λp=>p.1==k)=none:=by
 unfold dl at a;rw[pP];intro p b;rw[Option.map_eq_none_iff,lj]at a;simpa using a p b
theorem Nk{l:List (Int×α)}{k:Int}{b:α}(a:dl l k=some b):∃j,l.findIdx? (λp=>p.1==k)=some j:=by
 cases e:l.findIdx? (λp=>p.1==k)with
 | some j=>exact⟨j,rfl⟩
 | none=>
  unfold dl at a;rw[pP]at e;have:l.find? (λp=>p.1==k)=none:=lj.2 λp c=>by simpa using e p c
  rw[this]at a;cases a
variable {w:ag} {mb mt et:Nat} {l:List (Int×α)}
theorem xk.look(i:xk f w mb l)(h:Tryz.prog.underlying mt=some (.map 3 et)){e:au}(n:(zeroValue et).run Tryz.prog w=.ok e w)(k:Int)(c:Bool):(dl l k=none->(Instr.lookup mt (.map (some mb)) (ab k) c).run Tryz.prog w=.ok (if c then .tuple #[e,.bool false]else e) w)/\ ∀b,dl l k=some b->(Instr.lookup mt (.map (some mb)) (ab k) c).run Tryz.prog w=.ok (if c then .tuple #[f b,.bool true]else f b) w:=by
 obtain⟨es,o,g,j,_⟩:=i;have d:=nU (w:=w) k j;refine⟨λa=>?_,λb a=>?_⟩
 ·rw[zY a]at d;simp[Instr.lookup,cC h,iX g,lN,d,Result.andThen,n]
 ·obtain⟨p,m⟩:=Nk a;rw[m]at d;simp[Instr.lookup,cC h,iX g,lN,d,Result.andThen,a]
theorem xk.put(j:xk f w mb l)(n:Tryz.prog.underlying mt=some (.map 3 et)){k:Int}(h:dl l k=none)(b:α):∃w',(Instr.mapUpdate mt (.map (some mb)) (ab k) (f b)).run Tryz.prog w=.ok () w'/\xk f w' mb (l++ [(k,b)])/\bE (λq=>q=mb) w w'/\w'.heap.size=w.heap.size:=by
 obtain⟨es,t,a,e,m⟩:=j;have g:=nU (w:=w) k e;rw[zY h]at g;refine⟨_,by simp[Instr.mapUpdate,cC n,iX a,lN,g,lu _ a,Result.andThen];rfl,⟨_,_,(heap_set a).1,?_,stamped_push m λx r i=>?_⟩,?_,?_⟩
 ·simp[e]
 ·have s:(x.key,x.val)∈l.map λc=>(Value.int .i64 c.1,f c.2):=e▸cu.2 ⟨x,r,rfl⟩;obtain⟨c,o,d⟩:=cu.1 s;rw[i]at d;have:=pP.1 (zY h) c o;simp at d;simp[d.1]at this
 ·exact⟨rfl,rfl,rfl,by simp,λq _ p=>(heap_set a).2 q p⟩
 ·simp
theorem BS{α β:Type}(f:α->β)(l:List α)(i:Nat):(l.map f).eraseIdx i=(l.eraseIdx i).map f:=by
 simp[tz,List.map_take,List.map_drop]
theorem xk.del(m:xk f w mb l)(j:Tryz.prog.underlying mt=some (.map 3 et))(k:Int):∃w',(∀ty,(Builtin.delete_ #[mt,3] ty #[.map (some mb),ab k]).run Tryz.prog w=.ok (.tuple #[]) w')/\xk f w' mb (l.eraseP λp=>p.1==k)/\bE (λq=>q=mb) w w'/\w'.heap.size=w.heap.size:=by
 obtain⟨es,h,a,b,i⟩:=m;have c:=nU (w:=w) k b;cases e:l.findIdx? (λp=>p.1==k)with
 | none=>
  rw[e]at c;refine⟨{w with heap:=w.heap.setIfInBounds mb (.map es h)},λty=>by simp[Builtin.delete_,cC j,iX a,lN,c,lu _ a,Result.andThen],⟨_,_,(heap_set a).1,?_,i⟩,?_,?_⟩
  ·rw[List.eraseP_of_forall_not λp r=>by have:=pP.1 e p r;rw[this];decide];exact b
  ·exact⟨rfl,rfl,rfl,by simp,λq _ d=>(heap_set a).2 q d⟩
  ·simp
 | some g=>
  rw[e]at c;refine⟨{w with heap:=w.heap.setIfInBounds mb (.map (es.eraseIdxIfInBounds g) h)},λty=>by simp[Builtin.delete_,cC j,iX a,lN,c,lu _ a,Result.andThen],⟨_,_,(heap_set a).1,?_,stamped_erase i g⟩,?_,?_⟩
  ·have o:g<es.size:=by
     have s:=(List.findIdx?_eq_some_iff_getElem.1 e).1;have n:=congrArg List.length b;simp at n;omega
   rw[List.eraseP_eq_eraseIdx,e];simp only[Array.eraseIdxIfInBounds,o,dite_true,Array.toList_eraseIdx];rw[<-BS,<-BS,b]
  ·exact⟨rfl,rfl,rfl,by simp,λq _ d=>(heap_set a).2 q d⟩
  ·simp
theorem xk.len(a:xk f w mb l)(e:Tryz.prog.underlying mt=some (.map 3 et))(ty:TypeId):(Builtin.len_ #[mt] ty #[.map (some mb)]).run Tryz.prog w=.ok (ab l.length) w:=by
 obtain⟨es,g,b,c,_⟩:=a;have d:es.size=l.length:=by
  have:=congrArg List.length c;simpa using this
 simp[Builtin.len_,cC e,iX b,Result.andThen,d];unfold goInt
 go_num
theorem xk.kept{w':ag}(b:xk f w mb l)(e:w'.heap[mb]?=w.heap[mb]?):xk f w' mb l:=by
 obtain⟨es,a,c,d⟩:=b;exact⟨es,a,e.trans c,d⟩
theorem xk.new(w:ag):xk f (w.alloc (.map #[] 0)) w.heap.size []:=⟨#[],0,aD _ _,rfl,stamped_empty 0⟩
end
abbrev IM(w:ag)(mb:Nat)(l:List (Int×Nat)):Prop:=xk AX w mb l
theorem IM.look{w:ag}{mb:Nat}{l:List (Int×Nat)}(a:IM w mb l)(k:Int)(c:Bool):(dl l k=none->(Instr.lookup 67 (.map (some mb)) (ab k) c).run Tryz.prog w=.ok (if c then .tuple #[.pointer none,.bool false]else .pointer none) w)/\ ∀b,dl l k=some b->(Instr.lookup 67 (.map (some mb)) (ab k) c).run Tryz.prog w=.ok (if c then .tuple #[AX b,.bool true]else AX b) w:=
 xk.look a underlying67 (by kernel_rfl) k c
theorem D9(w:ag)(k:Int)(c:Bool):(Instr.lookup 67 (.map none) (ab k) c).run Tryz.prog w=.ok (if c then .tuple #[.pointer none,.bool false]else .pointer none) w:=by
 have b:=underlying67;have d:(zeroValue 65).run Tryz.prog w=.ok (.pointer none) w:=by kernel_rfl
 have a:=nU (f:=AX) (w:=w) (es:= #[]) (l:=[]) k rfl;simp[Instr.lookup,cC b,lN,a,Result.andThen,d]
structure lG where
 lo:Nat
 b:Nat
 room:Int
 n:Nat
 prog:List (Bh (n+1))
 pa:ar
 pc:Nat
structure gE where
 ow:Nat->Int
 po:Option Nat
 l:List (Int×Nat)
 wo:Option Nat
 wn:Nat
 f:aY->List Tc
 sl:aY->au
 bo:Option Nat
 bn:Nat
 ev:au
 es:List (aq×Int×Int×Tc)
 k:Nat
def eF(p:lG)(s:Sy)(d:gE):Array au:= #[ae p.pa p.prog.length p.pc,ab p.room,ab s.last,.map d.po,.map d.wo,.map d.bo,d.ev]
def AY(p:lG)(s:Sy)(d:gE):BL:=⟨p.b,4,eF p s d,74⟩
def Ow(p:lG)(s:Sy)(d:gE):BL:=⟨p.b,5,eF p s d,74⟩
def DR(e:aq×Int×Int×Tc):List au:=[af e.1,ab e.2.1,ab e.2.2.1,ab e.2.2.2.1.1,ab e.2.2.2.1.2.1,af e.2.2.2.1.2.2,ae e.2.2.2.2.1.1 e.2.2.2.2.2.length e.2.2.2.2.1.2]
def nR(t:Tc):Prop:=bJ 13 t=0\/(t.1=(0,0,⟨#[]⟩)/\t.2.2=[])
structure bC (p:lG) (s:Sy) (d:gE) (w:ag):Prop where
 low:∀b,d.ow b≠0->p.lo<=b/\b<w.heap.size
 box:w.heap[p.b]?=some (.cells (eF p s d) 74)
 own:d.ow p.b=-5
 pg:(gL (p.n+1) w.heap.size w p.pa p.prog/\ue (kp (p.n+1) λb=>d.ow b=-4) (λb=>d.ow b=-4) p.pa p.prog)/\(p.prog.length<=p.pc/\p.pc<=maxLen/\mK p.n p.prog=0/\(aC (p.n+6) (cm p.n p.prog)).length<=2097152)
 pm:(d.po=none/\d.l=[])\/∃mb,d.po=some mb/\d.ow mb=-5/\mb≠p.b/\IM w mb d.l
 keys:d.l.map (·.1)=s.ps.map (·.1)/\(s.ps.map (·.1)).Nodup/\(∀q∈s.ps,1<=q.1/\q.1<=s.last)/\0<=s.last/\s.last<=90/\s.ps.length<=12
 ps:∀k b,dl d.l k=some b->∃nm cs cms,s.get k=some (nm,cs,cms)/\P1 p.lo b nm p.room cs cms (d.k+201) (λq=>d.ow q=k) w/\cms.length<=20
 wy:iF p.lo (AY p s d) d.wo d.wn 13 d.f d.sl w/\(∀b,sG (AY p s d) d.wo d.sl b->b=p.b\/d.ow b=-1)/\(∀k,(d.f k).map (cn 13)=s.ways k)/\(∀k,(d.f k).length<=20)/\∀k,∀y∈d.f k,bJ 13 y=0/\aT 13 y=true/\In w.heap.size w 13 y/\cD (λb=>d.ow b=-1/\¬sG (AY p s d) d.wo d.sl b) 13 y
 bd:fi p.lo (Ow p s d) d.bo d.bn s.bonds w/\A1 s.bonds/\∀b,d.bo=some b->d.ow b=-2
 evr:w.ownsRow p.lo 54 7 d.ev d.es.length (d.es.flatMap DR)/\∀b,d.ev.ownBlock=some b->d.ow b=-3
 evt:d.es.map (λe=>(e.1,e.2.1,e.2.2.1,cn 13 e.2.2.2))=s.evs/\∀e∈d.es,(In w.heap.size w 13 e.2.2.2/\cD (λb=>d.ow b=-3/\d.ev.ownBlock≠some b) 13 e.2.2.2)/\nR e.2.2.2
theorem eJ{S D:aO}{w w':ag}(c:bE S w w')(e:∀b,D b->¬S b){n:Nat}{x:Tm n}(a:In w.heap.size w n x/\cD D n x):In w'.heap.size w' n x/\cD D n x:=
 ⟨(In.off (P:=λb=>D b/\b<w.heap.size) (λb d=>c.block b d.2 (e b d.1)) (In.offB a.2 a.1) a.1).mono c.size,a.2⟩
theorem Hm{l:List (Int×Nat)}{k:Int}{b:Nat}(a:dl l k=some b):(k,b)∈l:=by
 unfold dl at a;cases c:l.find? (λe=>e.1==k)with
 | none=>rw[c]at a;cases a
 | some e=>
  rw[c]at a;have f:=List.mem_of_find?_eq_some c;have d:=List.find?_some c;simp at a d;subst a d;exact f
theorem bC.key{p:lG}{s:Sy}{d:gE}{w:ag}(a:bC p s d w){k:Int}{b:Nat}(e:dl d.l k=some b):1<=k/\k<=s.last:=by
 have c:k∈d.l.map (·.1):=cu.2 ⟨_,Hm e,rfl⟩;rw[a.keys.1]at c;obtain⟨g,f,rfl⟩:=cu.1 c;exact a.keys.2.2.1 g f
theorem iF.turn{base:Nat}{p d:BL}{mo:da}{n N:Nat}{f:aY->List (Tm N)}{sl:aY->au}{w w':ag}(c:iF base p mo n N f sl w){S:aO}(m:bE S w w')(j:∀b,sG p mo sl b->b≠p.b->¬S b)(o:d.b=p.b)(i:uc d mo w'):iF base d mo n N f sl w':=by
 refine⟨by rw[o];exact c.1,i,?_⟩;rcases c.2.2 with a|⟨mb,rfl,l⟩
 ·exact aj a
 ·refine ak ⟨mb,rfl,l.kee m λb e=>j b (FV e) λa=>?_⟩;rcases e with rfl|⟨k,g,h⟩
  ·exact xi c a.symm
  ·exact AV c g (by rw[h,a])
theorem fi.turn{base:Nat}{p a:BL}{mo:da}{n:Nat}{g:aY->Bool}{w w':ag}(c:fi base p mo n g w){S:aO}(h:bE S w w')(f:∀b:Nat,mo=Option.some b->¬S b)(i:a.b=p.b)(e:uc a mo w'):fi base a mo n g w':=by
 refine⟨by rw[i];exact c.1,e,?_⟩;rcases c.2.2 with d|⟨mb,rfl,j⟩
 ·exact aj d
 ·exact ak ⟨mb,rfl,j.kee h (f mb rfl)⟩
section
variable {p:lG} {s:Sy} {d:gE} {w w':ag} {ow:Nat->Int} {S:aO}
theorem bC.pgK(e:bC p s d w)(f:bE S w w')(g:∀b,d.ow b=-4->¬S b)(h:∀b,d.ow b≠0->ow b=d.ow b):gL (p.n+1) w'.heap.size w' p.pa p.prog/\ue (kp (p.n+1) λb=>ow b=-4) (λb=>ow b=-4) p.pa p.prog:=by
 have c:=cU (eD (p.n+1)) 2 (p7 (p.n+1)) p.pa;exact⟨c.2.2.2.1 _ _ _ _ f.size (c.2.2.1 _ _ _ w' _ (λb a=>f.block b a.2 (g b a.1)) (c.2.1 _ _ _ _ e.pg.1.2 e.pg.1.1) e.pg.1.1),c.1 _ _ _ (λb a=>(h b (by rw[a];decide)).trans a) e.pg.1.2⟩
theorem bC.pmK(e:bC p s d w)(j:bE S w w')(i:∀b,d.ow b=-5->b≠p.b->¬S b)(k:∀b,d.ow b≠0->ow b=d.ow b):(d.po=none/\d.l=[])\/∃mb,d.po=some mb/\ow mb=-5/\mb≠p.b/\IM w' mb d.l:=by
 rcases e.pm with f|⟨mb,g,a,c,h⟩
 ·exact aj f
 ·exact ak ⟨mb,g,(k mb (by rw[a];decide)).trans a,c,h.kept (j.block mb (e.low mb (by rw[a];decide)).2 (i mb a c))⟩
theorem bC.psK(f:bC p s d w)(c:bE S w w'){k:Int}{b j:Nat}(o:d.k<=j)(n:∀b,d.ow b=k->¬S b)(t:∀b,d.ow b≠0->ow b=d.ow b)(r:∀b,ow b≠0->p.lo<=b/\b<w'.heap.size)(g:dl d.l k=some b):∃nm cs a,s.get k=some (nm,cs,a)/\P1 p.lo b nm p.room cs a (j+201) (λq=>ow q=k) w'/\a.length<=20:=by
 obtain⟨nm,cs,a,h,i,m⟩:=f.ps k b g;have u:=(f.key g).1;exact⟨nm,cs,a,h,(i.kept (S:=S) ⟨c.os,c.tape,c.output,c.size,c.block⟩ n).mono (λb e=>(t b (by rw[e];omega)).trans e) (Nat.add_le_add_right o 201) λb e=>r b (by rw[e];omega),m⟩
theorem bC.wyK(e:bC p s d w)(j:bE S w w')(i:∀b,d.ow b=-1->¬S b)(l:∀b,d.ow b≠0->ow b=d.ow b){q:BL}(m:q.b=p.b)(o:uc q d.wo w'):iF p.lo q d.wo d.wn 13 d.f d.sl w'/\(∀b,sG q d.wo d.sl b->b=p.b\/ow b=-1)/\∀k,∀y∈d.f k,bJ 13 y=0/\aT 13 y=true/\In w'.heap.size w' 13 y/\cD (λb=>ow b=-1/\¬sG q d.wo d.sl b) 13 y:=by
 have h:∀b,sG q d.wo d.sl b ↔ sG (AY p s d) d.wo d.sl b:=λb=>by
  unfold sG;rw[m];exact Iff.rfl
 refine⟨e.wy.1.turn j (λb c r=>?_) m o,λb c=>(e.wy.2.1 b ((h b).1 c)).imp id λa=>(l b (by rw[a];decide)).trans a,λk y t=>?_⟩
 ·rcases e.wy.2.1 b c with a|a
  ·exact absurd a r
  ·exact i b a
 ·obtain⟨y1,y2,u⟩:=e.wy.2.2.2.2 k y t;have n:=eJ j (λb q=>i b q.1) u;exact⟨y1,y2,n.1,n.2.mono λb g=>⟨(l b (by rw[g.1];decide)).trans g.1,λc=>g.2 ((h b).1 c)⟩⟩
theorem bC.bdK(a:bC p s d w)(g:bE S w w')(f:∀b,d.ow b=-2->¬S b)(h:∀b,d.ow b≠0->ow b=d.ow b){q:BL}(i:q.b=p.b)(e:uc q d.bo w'):fi p.lo q d.bo d.bn s.bonds w'/\A1 s.bonds/\∀b,d.bo=some b->ow b=-2:=
 ⟨a.bd.1.turn g (λb c=>f b (a.bd.2.2 b c)) i e,a.bd.2.1,λb c=>(h b (by rw[a.bd.2.2 b c];decide)).trans (a.bd.2.2 b c)⟩
theorem bC.evK(c:bC p s d w)(h:bE S w w')(f:∀b,d.ow b=-3->¬S b)(i:∀b,d.ow b≠0->ow b=d.ow b):(w'.ownsRow p.lo 54 7 d.ev d.es.length (d.es.flatMap DR)/\∀b,d.ev.ownBlock=some b->ow b=-3)/\∀e∈d.es,(In w'.heap.size w' 13 e.2.2.2/\cD (λb=>ow b=-3/\d.ev.ownBlock≠some b) 13 e.2.2.2)/\nR e.2.2.2:=by
 refine⟨⟨bB c.evr.1 h λb a=>f b (c.evr.2 b a),λb a=>(i b (by rw[c.evr.2 b a];decide)).trans (c.evr.2 b a)⟩,λe g=>⟨?_,(c.evt.2 e g).2⟩⟩;have j:=eJ h (λb a=>f b a.1) (c.evt.2 e g).1;exact⟨j.1,j.2.mono λb a=>⟨(i b (by rw[a.1];decide)).trans a.1,a.2⟩⟩
theorem qV{d:gE}{w:ag}(a:w.heap[p.b]?=some (.cells (eF p s d) 74)):uc (AY p s d) d.wo w/\uc (Ow p s d) d.bo w:=by
 refine⟨⟨⟨by simp[AY,eF],by simp[AY]⟩,?_⟩,⟨⟨by simp[Ow,eF],by simp[Ow]⟩,?_⟩⟩
 ·simp[AY,eF,a]
 ·simp[Ow,eF,a]
theorem bC.kept(a:bC p s d w)(c:bE S w w')(n:∀b,S b->d.ow b=0):bC p s d w':=by
 have j:∀b,d.ow b≠0->¬S b:=λb e r=>e (n b r);have f:∀b,d.ow b≠0->d.ow b=d.ow b:=λ_ _=>rfl;have h:w'.heap[p.b]?=some (.cells (eF p s d) 74):=(c.block p.b (aI.1 a.box).1 (j p.b (by rw[a.own];decide))).trans a.box;have i:∀b,d.ow b≠0->p.lo<=b/\b<w'.heap.size:=λb e=>⟨(a.low b e).1,aW (a.low b e).2 c.size⟩;have t:∀{t:Int},t≠0->∀b,d.ow b=t->¬S b:=λo b g=>j b (by rw[g];exact o);obtain⟨y1,y2,q⟩:=a.wyK c (t (by decide)) f rfl (qV h).1;obtain⟨l,m⟩:=a.evK c (t (by decide)) f;exact⟨i,h,a.own,⟨a.pgK c (t (by decide)) f,a.pg.2⟩,a.pmK c (λb g _=>t (by decide) b g) f,a.keys,λk b e=>a.psK c (av _) (t (by have:=(a.key e).1;omega)) f i e,⟨y1,y2,a.wy.2.2.1,a.wy.2.2.2.1,q⟩,a.bdK c (t (by decide)) f rfl (qV h).2,l,a.evt.1,m⟩
theorem bC.later(a:bC p s d w)(b:am w w'):bC p s d w':=a.kept (aR b λ_=>False) λ_ q=>q.elim
end
def PQ(f g:Int)(h:aq)(xa:ar)(i xc:Nat)(t:Tc)(w:ag):Prop:=
 ∀b,am w b->ao 56 #[.agg #[ab f,ab g,af h,ae xa i xc]] b λd c=>∃y0 y1 y2 ya yl yc,d=.returned (.agg #[ab y0,ab y1,af y2,ae ya yl yc])/\Hid (am b c/\∃a:Tc,(a.1=(y0,y1,y2)/\a.2.1=(ya,yc)/\a.2.2.length=yl)/\(In c.heap.size c 13 a/\cD (λe=>b.heap.size<=e) 13 a)/\cn 13 a=t/\nR a)
theorem kO{m:Nat}{x:Tm (m+1)}{w:ag}(n:In w.heap.size w (m+1) x)(g:bJ (m+1) x=0):PQ x.1.1 x.1.2.1 x.1.2.2 x.2.1.1 x.2.2.length x.2.1.2 (cn (m+1) x) w:=λW f=>by
 have l:aJ ⟨m+1,x⟩:=aU.2 (bM.1 g).1;refine(iL (m+1) x W.heap.size W ((n.below f).mono f.size) (av _) l).mono ?_;rintro e w' ⟨y,rfl,H⟩;obtain⟨i,j,k,d⟩:=H;have a:bJ (m+1) y=0:=(cd d).trans g;have c:aJ ⟨m+1,y⟩:=aU.2 (bM.1 a).1;have b:fU (m+1) y<13:=by have:=(bM.1 a).2.1;omega
 have h:=jS 13 (m+1) y c b;refine⟨y.1.1,y.1.2.1,y.1.2.2,y.2.1.1,y.2.2.length,y.2.1.2,rfl,i,bf 13 (m+1) y,⟨rfl,rfl,by simp[bf]⟩,⟨tb 13 (m+1) y _ _ c b j,uH 13 (m+1) y _ c b k⟩,(iK h).trans (iK d),aj ((cd h).trans a)⟩
theorem Kd(w:ag):PQ 0 0 ⟨#[]⟩ none 0 0 sH w:=λW h=>by
 refine(sU 12 0 0 ⟨#[]⟩ none 0 0 [] W (by decide) λw1 c=>?_).mono ?_
 ·refine(mh none 0 w1).mono ?_;rintro e w' ⟨rfl,rfl⟩;exact⟨none,0,[],rfl,aA _ _,rfl,av _,aM _,rfl,aj rfl⟩
 ·rintro e w' ⟨a,b,l,rfl,H⟩;obtain⟨c,d,g,f,_⟩:=H;obtain rfl:l=[]:=bL d;exact⟨0,0,⟨#[]⟩,a,0,b,rfl,c,((0,0,⟨#[]⟩),(a,b),[]),⟨rfl,rfl,rfl⟩,⟨⟨⟨show dN 0 by unfold dN;decide,show dN 0 by unfold dN;decide,show (0:Nat)<=maxLen from aM _,aM _,f⟩,aj rfl⟩,aj rfl⟩,rfl,ak ⟨rfl,rfl⟩⟩
def Ge(d:gE)(w w':ag)(t:Int)(q:Nat):Int:=if w.heap.size<=q/\q<w'.heap.size then t else d.ow q
theorem uK{p:lG}{s:Sy}{d:gE}{w w':ag}{t:Int}(a:bC p s d w)(e:w.heap.size<=w'.heap.size)(c:p.lo<=w.heap.size):∀b,Ge d w w' t b≠0->p.lo<=b/\b<w'.heap.size:=λb q=>by
 unfold Ge at q;split at q
 ·omega
 ·have:=a.low b q;omega
theorem uL{p:lG}{s:Sy}{d:gE}{w w':ag}{t:Int}(a:bC p s d w):∀b,d.ow b≠0->Ge d w w' t b=d.ow b:=λb q=>by
 have:=(a.low b q).2;exact if_neg (by omega)
theorem bC.lo{p:lG}{s:Sy}{d:gE}{w:ag}(a:bC p s d w):p.lo<=w.heap.size/\p.b<w.heap.size:=by
 have:=a.low p.b (by rw[a.own];decide);omega
def zt(p:lG)(s:Sy)(d:gE)(wt:aq)(a b:Int)(t:Tc)(w w':ag):Prop:=
 ∃e f,bC p (s.tell wt a b t) {d with ow:=Ge d w w' (-3),ev:=e,es:=d.es++ [(wt,a,b,f)]} w'/\bE (λc=>c=p.b\/d.ow c=-3) w w'
theorem bC.tell{p:lG}{s:Sy}{d:gE}{w:ag}(h:bC p s d w)(wt:aq)(a b V W:Int)(X:aq)(xa:ar)(Y xc:Nat)(t:Tc)(aG:PQ V W X xa Y xc t w)(aF:d.es.length<=100000):ao 46 #[aH p.b,af wt,ab a,ab b,.agg #[ab V,ab W,af X,ae xa Y xc]] w λe w'=>e=.returned (.tuple #[])/\Hid (zt p s d wt a b t w w'):=by
 obtain⟨aa,ap⟩:=h.lo;obtain⟨y,z,m⟩:∃y z,d.ev=ae y d.es.length z:=by
  rcases h.evr.1.2 with⟨e,aD⟩|⟨g,c,aT,e,_⟩
  ·exact⟨none,0,by rw[e,aD]⟩
  ·exact⟨_,c,e⟩
 have O:=h.box;have I:d.ev.ownBlock≠some p.b:=λe=>by
  have u:=h.evr.2 _ e;rw[h.own]at u;cases u
 have an:=h.evr.1;rw[m]at an I;refine(E7 p.lo p.b wt a b V W X xa Y xc y d.es.length z _ (λK w' y0 y1 y2 ya yl yc=>∃l:Tc,(l.1=(y0,y1,y2)/\l.2.1=(ya,yc)/\l.2.2.length=yl)/\(In w'.heap.size w' 13 l/\cD (λf=>K.heap.size<=f) 13 l)/\cn 13 l=t/\nR l) w aF ap aa ⟨?_,by simp[World.frozen?,O]⟩ an I aG).mono ?_
 ·have u:=ah O 6;simp only[eF,dh,dy]at u;rw[m]at u;exact u
 rintro e w' ⟨rfl,ax⟩;obtain⟨g,c,q,x,K,L,y0,y1,y2,ya,yl,yc,R,aO,⟨l,⟨M,N,aE⟩,Q,aI,aL⟩,S,au,J⟩:=ax;have H:am w L:=R.trans (aO.mono R.size);have P:bE (λaS=>(Value.slice y d.es.length z).ownBlock=some aS) w q:=(aR H _).trans S λ_ _ e=>e;have o:bE (λf=>f=p.b\/d.ow f=-3) w w':=by
  rw[x];refine(P.mono (T:=λf=>f=p.b\/d.ow f=-3) λf _ e=>ak (h.evr.2 f (by rw[m];exact e))).trans (bN q p.b 6 _) λf _ e=>aj e
 have aN:=o.size;have aX:w'.heap.size=q.heap.size:=by rw[x];simp[World.setCell]
 have Z:w'.heap[p.b]?=some (.cells (eF p (s.tell wt a b t) {d with ow:=Ge d w w' (-3),ev:=ae (some ⟨g,0,none⟩) (d.es.length+1) c,es:=d.es++ [(wt,a,b,l)]}) 74):=by
  have v:q.heap[p.b]?=some (.cells (eF p s d) 74):=(P.block p.b ap I).trans O;rw[x];simp[World.setCell,bT,v,eF,Sy.tell]
 have ad:=uK (t:=-3) h aN aa;have n:=uL (w':=w') (t:=-3) h;have G:∀{U:Int},U≠ -3->U≠ -5->∀f,d.ow f=U->¬(f=p.b\/d.ow f=-3):=λF v f e i=>by
  rcases i with rfl|i
  ·rw[h.own]at e;exact v e.symm
  ·exact F (e.symm.trans i)
 have al:∀f,w.heap.size<=f->f<w'.heap.size->Ge d w w' (-3) f=-3:=λf ay aA=>if_pos ⟨ay,aA⟩;obtain⟨aB,aC⟩:=qV Z;obtain⟨E,j,r⟩:=h.wyK o (G (by decide) (by decide)) n rfl aB;refine⟨rfl,ae (some ⟨g,0,none⟩) (d.es.length+1) c,l,⟨ad,Z,(n p.b (by rw[h.own];decide)).trans h.own,⟨h.pgK o (G (by decide) (by decide)) n,h.pg.2⟩,h.pmK o (λf M N i=>?_) n,h.keys,λk b f=>h.psK o (av _) (G (by have:=(h.key f).1;omega) (by have:=(h.key f).1;omega)) n ad f,⟨E,j,h.wy.2.2.1,h.wy.2.2.2.1,r⟩,h.bdK o (G (by decide) (by decide)) n rfl aC,⟨?_,λf e=>?_⟩,?_,λe A=>?_⟩,o⟩
 ·rcases i with i|i
  ·exact N i
  ·rw[M]at i;cases i
 ·have e:[(wt,a,b,l)].flatMap DR=[af wt,ab a,ab b,ab y0,ab y1,af y2,ae ya yl yc]:=by simp[DR,M,N,aE]
  have v:w'.ownsRow p.lo 54 7 (ae (some ⟨g,0,none⟩) (d.es.length+1) c) (d.es.length+1) (d.es.flatMap DR++ [(wt,a,b,l)].flatMap DR):=by
   rw[e,x];refine bB au (bN q p.b 6 _) λf aM i=>?_;have:g=f:=az aM;subst this i;rcases J with i|i
   ·exact I i
   ·have:=H.size;omega
  rw[<-lk]at v;simpa using v
 ·have B:g=f:=az e;subst B;rcases J with i|i
  ·have F:=h.evr.2 g (by rw[m];exact i);exact(n g (by rw[F];decide)).trans F
  ·have:=H.size;have:=(au.lt g rfl).2;exact al g (by omega) (by omega)
 ·show _=s.evs++ [(wt,a,b,t)];rw[gV,h.evt.1,aV,cF,aI]
 ·have aK:bE (λf=>f=p.b\/d.ev.ownBlock=some f) w w':=by
    rw[x,m];exact(P.mono (T:=λf=>f=p.b\/(Value.slice y d.es.length z).ownBlock=some f) λf _ e=>ak e).trans (bN q p.b 6 _) λf _ e=>aj e
  have aJ:bE (λf=>f=p.b\/d.ev.ownBlock=some f) L w':=by
   rw[x,m];exact(S.mono (T:=λf=>f=p.b\/(Value.slice y d.es.length z).ownBlock=some f) λf _ e=>ak e).trans (bN q p.b 6 _) λf _ e=>aj e
  have aW:=H.size;rcases de.1 A with A|A
  ·obtain⟨⟨aw,aP⟩,aQ⟩:=h.evt.2 e A;refine⟨?_,aQ⟩;have C:=eJ aK (D:=λf=>(d.ow f=-3/\d.ev.ownBlock≠some f)/\f<w.heap.size) (λf E j=>?_) ⟨aw,In.offB aP aw⟩
   ·refine⟨C.1,C.2.mono λf i=>⟨(n f (by rw[i.1.1];decide)).trans i.1.1,λj=>?_⟩⟩;have B:g=f:=az j;subst B;rcases J with r|r
    ·exact i.1.2 (by rw[m];exact r)
    ·omega
   ·rcases j with rfl|j
    ·have:=E.1.1;rw[h.own]at this;cases this
    ·exact E.1.2 j
  ·obtain rfl:=dC.1 A;refine⟨?_,aL⟩;have aU:=R.size;have ai:∀f,d.ev.ownBlock=some f->f<w.heap.size:=λf i=>(h.evr.1.lt f i).2;have C:=eJ aJ (D:=λf=>K.heap.size<=f/\f<L.heap.size) (λf E j=>?_) ⟨Q.1,In.offB Q.2 Q.1⟩
   ·have:=S.size;refine⟨C.1,C.2.mono λf i=>⟨al f (by omega) (by omega),λj=>?_⟩⟩;have B:g=f:=az j;subst B;rcases J with r|r
    ·have:=ai g (by rw[m];exact r);omega
    ·omega
   ·rcases j with rfl|j
    ·omega
    ·have:=ai f j;omega
theorem QR{w:ag}{q:Nat}{a b c d:au}{T:TypeId}{fr:Nat×Nat}(e:w.heap[q]?=some (.cells #[a,b,c,d] T fr)):w.cell? ⟨q,0,none⟩=some a/\w.cell? ⟨q,1,none⟩=some b/\w.cell? ⟨q,2,none⟩=some c/\w.cell? ⟨q,3,none⟩=some d:=by simp[World.cell?,e]
theorem Hl{l:List (Int×Nat)}{ps:List (Int×aq×Tc×List Tc)}(k:Int)(a:l.map (·.1)=ps.map (·.1)):(dl l k).isSome=((ps.find? λp=>p.1==k).map (·.2)).isSome:=by
 induction l generalizing ps with
 | nil=>
  cases ps with
  | nil=>rfl
  | cons b ps=>simp at a
 | cons c l ih=>
  cases ps with
  | nil=>simp at a
  | cons b ps=>
   simp only[aV,lh]at a;have ih:=ih a.2;unfold dl at ih ⊢;rw[fL,fL,a.1];cases b.1==k
   ·exact ih
   ·rfl
section
variable {p:lG} {s:Sy} {d:gE} {w:ag}
theorem bC.alive(a:bC p s d w)(k:Int):(dl d.l k).isSome=(s.get k).isSome:=Hl k a.keys.1
theorem bC.look(g:bC p s d w)(k:Int)(c:Bool):(Instr.lookup 67 (.map d.po) (ab k) c).run Tryz.prog w=.ok (if c then .tuple #[match dl d.l k with|some b=>AX b|none=> .pointer none,.bool (dl d.l k).isSome]else match dl d.l k with|some b=>AX b|none=> .pointer none) w:=by
 rcases g.pm with⟨a,f⟩|⟨mb,a,_,_,f⟩
 ·rw[a,f];have:=D9 w k c;cases c<;>exact this
 ·rw[a];obtain⟨h,i⟩:=f.look k c;cases e:dl d.l k with
  | none=>
   rw[h e];cases c<;>rfl
  | some b=>
   rw[i b e];cases c<;>rfl
theorem bC.cells(c:bC p s d w):ai w p.b 0 (ae p.pa p.prog.length p.pc)/\ai w p.b 1 (ab p.room)/\ai w p.b 2 (ab s.last)/\ai w p.b 3 (.map d.po):=by
 have a:=c.box;exact⟨ah a 0,ah a 1,ah a 2,ah a 3⟩
theorem bC.isAlive(a:bC p s d w)(k:Int):ao 51 #[aH p.b,ab k] w λe w'=>e=.returned (.bool (s.get k).isSome)/\w'=w:=by
 have i:=a.cells.2.2.2;have f:=a.look k true;rw[if_pos rfl]at f;have c:=a.alive k;obtain⟨h,g⟩:∃h,h=(s.get k).isSome:=⟨_,rfl⟩;rw[<-g]at c ⊢;rw[c]at f;generalize (match dl d.l k with|some b=>AX b|none=> .pointer none)=j at f;clear c g;generalize d.po=mo at*;clear a;go_enter func51,ntmps51;go_wp2_with fail
 go_ret
 exact⟨rfl,rfl⟩
theorem bC.len(c:bC p s d w)(ty:TypeId):(Builtin.len_ #[67] ty #[.map d.po]).run Tryz.prog w=.ok (ab s.ps.length) w:=by
 have e:d.l.length=s.ps.length:=by
  have:=congrArg List.length c.keys.1;simpa using this
 rcases c.pm with⟨a,b⟩|⟨mb,a,_,_,b⟩
 ·rw[a,<-e,b];exact Maps.len_nil underlying67 ty
 ·rw[a,<-e];exact xk.len b underlying67 ty
theorem bC.mayHave(c:bC p s d w)(n:Nat)(r:n<=1000):ao 40 #[aH p.b,ab n] w λe w'=>e=.returned (.bool (s.may n))/\w'=w:=by
 obtain⟨_,_,k,l⟩:=c.cells;have q:=c.len 3;obtain⟨_,_,_,t,u,v⟩:=c.keys;obtain⟨j,a⟩:∃j,j=s.may n:=⟨_,rfl⟩;rw[<-a];unfold Sy.may at a;generalize s.last=h at*;generalize s.ps.length=f at*;generalize d.po=mo at*;clear c;have m:IntKind.i64.wrap ((f:Int)+n)=(f:Int)+n:=by rw[IntKind.wrap];simp[IntKind.bits,IntKind.signed];omega
 have o:IntKind.i64.wrap (h+n)=h+n:=by rw[IntKind.wrap];simp[IntKind.bits,IntKind.signed];omega
 go_enter func40,ntmps40;by_cases g:(f:Int)+n<=12
 ·by_cases i:h+n<=90
  ·rw[jb g,jb i]at a;subst a;go_wp2_with fail
   go_ret
   exact⟨rfl,rfl⟩
  ·rw[jb g,decide_eq_false i]at a;subst a;go_wp2_with fail
   go_ret
   exact⟨rfl,rfl⟩
 ·rw[decide_eq_false g]at a;subst a;go_wp2_with fail
  go_ret
  exact⟨rfl,rfl⟩
theorem Ei(n:Nat)(nm:aq)(l:List (Bh n))(q:ar)(F len B r:Nat)(w:ag)(J:l.length=len)(K:len<=9223372036854775807)(C:B<=w.heap.size)(_hsb:r<w.heap.size)(v:Hid (ai w r 0 (ae q len F)))(y:Hid (gL n B w q l)):ao 41 #[aH r,af nm] w λe w'=>e=.returned (.bool (gI n nm l).isSome)/\am w w':=by
 have H:=v.out;go_enter func41,ntmps41;go_wp2_with fail;go_loopw [12] (λm wr=>∃a:Nat,a<=len/\m=ab a/\Hid (am w wr/\gI n nm l=gI n nm (l.drop a))) (λm _=>len-(intOf m).toNat)
 case atStart=>exact⟨0,by omega,rfl,aA _ _,rfl⟩
 case round=>
 obtain⟨a,I,rfl,c⟩:=hrel;by_cases L:a<len
 ·obtain⟨b,d⟩:∃b,l[a]?=some b:=⟨l[a]'(by omega),aN _⟩;obtain⟨j,lo,rfl,E,x⟩:∃g o,q=some ⟨g,o,none⟩/\g<B/\Hid (∀(t:Nat)(f:au),(p7 n b)[t]?=some f->ai w g (o+a*2+t) f):=by
   rcases y with e|⟨g,o,e,D,A⟩
   ·rw[e]at d;simp at d
   ·exact⟨g,o,e,D,(A a _ d).1⟩
  have h:∀(t:Nat)(f:au),(p7 n b)[t]?=some f->ai wr j (lo+a*2+t) f:=λt f u=>(c.1.cell (p:=⟨j,lo+a*2+t,none⟩) (aW E C)).trans (x t f u);have G:ai wr j (lo+a*2) (af b.1):=h 0 _ rfl;have O:ai wr j (lo+a*2+1) (ae b.2.1.1 b.2.2.length b.2.1.2):=h 1 _ rfl;have M:(0:Int)<=(a:Int):=by omega
  have N:(a:Int)<(len:Int):=by omega
  have s:Hid (∀o,am w (wr.alloc o)):=λo=>c.1.alloc c.1.size o;by_cases i:b.1=nm
  ·have k:Hid (gI n nm l=some b):=by
     show _=_;rw[c.out.2,pd n nm d,if_pos i]
   rw[i]at G;clear h c d;go_wp2_with fail
   go_ret
   exact⟨b9 (by rw[k.out];rfl),s _⟩
  ·have k:Hid (gI n nm l=gI n nm (l.drop (a+1))):=by
     show _=_;rw[c.out.2,pd n nm d,if_neg i]
   have u:(b.1.toList==nm.toList)=false:=by
    rw[g9];intro e;rw[cI,cI]at e;exact i (ByteArray.ext (Array.ext' e))
   clear h c d;go_wp2_with fail;go_roundw
   case rel=>exact⟨a+1,by omega,by go_num,s _,k⟩
   case measure=>simp[intOf];omega
 ·obtain rfl:a=len:=by omega
  have z:Hid (gI n nm l=none):=by
   show _=_;rw[c.out.2,pO (by omega)];rfl
  have HB:=ap c.1;clear c;go_wp2_with fail
  go_ret
  exact⟨b9 (by rw[z.out];rfl),HB⟩
theorem bC.knows(a:bC p s d w)(nm:aq):ao 41 #[aH p.b,af nm] w λe w'=>e=.returned (.bool (lQ p.n p.prog nm))/\am w w':=
 Ei (p.n+1) nm p.prog p.pa p.pc p.prog.length w.heap.size p.b w rfl (aF a.pg.2.1 a.pg.2.2.1) (av _) a.lo.2 a.cells.1 a.pg.1.1
end
theorem oI{g:Type}{k j:Int}(d:j≠k):(l:List (Int×g))->(l.eraseP λp=>p.1==k).find? (λp=>p.1==j)=l.find? λp=>p.1==j
 | []=>rfl
 | a::l=>by
  rw[List.eraseP_cons];by_cases b:a.1=k
  ·have c:(a.1==k)=true:=by simpa using b
   have f:(a.1==j)=false:=by simp[b];exact λe=>d e.symm
   simp[c,f]
  ·have c:(a.1==k)=false:=by simpa using b
   simp only[c,cond_false,fL];rw[oI d l]
theorem xX{g:Type}{k:Int}:(l:List (Int×g))->(l.map (·.1)).Nodup->(l.eraseP λp=>p.1==k).find? (λp=>p.1==k)=none
 | [],_=>rfl
 | a::l,hn=>by
  rw[aV,lq]at hn;rw[List.eraseP_cons];by_cases b:a.1=k
  ·have c:(a.1==k)=true:=by simpa using b
   simp only[c,cond_true];refine lj.2 λf e=>?_;simp only[cv];intro d;exact hn.1 (cu.2 ⟨f,e,d.trans b.symm⟩)
  ·have c:(a.1==k)=false:=by simpa using b
   simp only[c,cond_false,fL];exact xX l hn.2
def eA(a:Nat)(d b:gE)(w w':ag):Prop:=bE (λq=>d.ow q<0) w w'/\(∀q,q<w.heap.size->b.ow q=d.ow q)/\b.k=d.k/\b.es.length<=d.es.length+a/\b.wn<=d.wn+a/\b.bn<=d.bn+a
theorem eA.trans{a b:Nat}{d d1 d2:gE}{w w1 w2:ag}(i:eA a d d1 w w1)(k:eA b d1 d2 w1 w2):eA (a+b) d d2 w w2:=by
 obtain⟨g,h,j,o,p,q⟩:=i;obtain⟨l,m,n,s,t,u⟩:=k;have r:=g.size;exact⟨g.trans l λc e f=>by rw[h c e]at f;exact f,λc e=>(m c (by omega)).trans (h c e),n.trans j,by omega,by omega,by omega⟩
theorem eA.mono{a b:Nat}{d d1:gE}{w w1:ag}(c:eA a d d1 w w1)(k:a<=b):eA b d d1 w w1:=by
 obtain⟨e,f,g,h,i,j⟩:=c;exact⟨e,f,g,by omega,by omega,by omega⟩
theorem eA.later(d:gE){w w1:ag}(a:am w w1):eA 0 d d w w1:=⟨aR a _,λ_ _=>rfl,rfl,av _,av _,av _⟩
theorem zt.up{p:lG}{s:Sy}{d:gE}{wt:aq}{a b:Int}{t:Tc}{w w':ag}(f:bC p s d w)(k:zt p s d wt a b t w w'):∃e,bC p (s.tell wt a b t) e w'/\eA 1 d e w w':=by
 obtain⟨l,m,g,h⟩:=k;refine⟨_,g,h.mono λi _ c=>?_,λi j=>if_neg (by omega),rfl,by simp,fN _,fN _⟩;rcases c with c|c
 ·rw[c,f.own];decide
 ·rw[c];decide
section
variable {p:lG} {s:Sy} {d:gE} {w:ag}
theorem bC.del(a:bC p s d w)(k:Int):∃w',(∀ty,(Builtin.delete_ #[67,3] ty #[.map d.po,ab k]).run Tryz.prog w=.ok (.tuple #[]) w')/\bC p {s with ps:=s.ps.eraseP λq=>q.1==k} {d with l:=d.l.eraseP λq=>q.1==k} w'/\bE (λq=>d.ow q=-5/\q≠p.b) w w':=by
 have I:(d.l.eraseP λq=>q.1==k).map (·.1)=(s.ps.eraseP λq=>q.1==k).map (·.1):=by
  have e:=congrArg (λl=>l.eraseP (λq=>q==k)) a.keys.1;simpa [List.eraseP_map,Function.comp_def]using e
 obtain⟨D,r,E,F,G,H⟩:=a.keys;have K:(d.l.map (·.1)).Nodup:=by rw[D];exact r
 have u:∀(w':ag),bE (λq=>d.ow q=-5/\q≠p.b) w w'->((d.po=none/\d.l.eraseP (λq=>q.1==k)=[])\/∃mb,d.po=some mb/\d.ow mb=-5/\mb≠p.b/\IM w' mb (d.l.eraseP λq=>q.1==k))->bC p {s with ps:=s.ps.eraseP λq=>q.1==k} {d with l:=d.l.eraseP λq=>q.1==k} w':=λw' c L=>by
  have h:∀b,d.ow b≠0->d.ow b=d.ow b:=λ_ _=>rfl;have x:∀b,d.ow b≠0->p.lo<=b/\b<w'.heap.size:=λb q=>⟨(a.low b q).1,aW (a.low b q).2 c.size⟩;have j:w'.heap[p.b]?=some (.cells (eF p s d) 74):=(c.block p.b a.lo.2 λm=>m.2 rfl).trans a.box;have t:∀{t:Int},t≠ -5->∀b,d.ow b=t->¬(d.ow b=-5/\b≠p.b):=λN b e m=>N (e.symm.trans m.1);obtain⟨y1,y2,S⟩:=a.wyK c (t (by decide)) h rfl (qV j).1;obtain⟨f,g⟩:=a.evK c (t (by decide)) h;refine⟨x,j,a.own,⟨a.pgK c (t (by decide)) h,a.pg.2⟩,L,⟨I,?_,λq M=>E q (List.mem_of_mem_eraseP M),F,G,?_⟩,λi b q=>?_,⟨y1,y2,a.wy.2.2.1,a.wy.2.2.2.1,S⟩,a.bdK c (t (by decide)) h rfl (qV j).2,f,a.evt.1,g⟩
  ·exact(r.sublist ((List.eraseP_sublist (l:=s.ps) (p:=λq=>q.1==k)).map _))
  ·exact aF (List.length_eraseP_le) H
  ·have v:i≠k:=λe=>by
     subst e;have:dl (d.l.eraseP λq=>q.1==i) i=none:=by unfold dl;rw[xX d.l K];rfl
     rw[this]at q;cases q
   have y:dl d.l i=some b:=by
    unfold dl at q ⊢;rw[oI v]at q;exact q
   obtain⟨O,A,z,o,C⟩:=a.psK c (av _) (t (by have:=(a.key y).1;omega)) h x y;refine⟨O,A,z,?_,C⟩;unfold Sy.get at o ⊢;rw[oI v];exact o
 rcases a.pm with⟨f,g⟩|⟨mb,f,g,n,B⟩
 ·refine⟨w,?_,u w (bE.refl _ _) (aj ⟨f,by rw[g];rfl⟩),bE.refl _ _⟩;have J:=underlying67;intro ty;rw[f];simp[Builtin.delete_,cC J,lN,Result.andThen]
 ·obtain⟨w',P,Q,R,_⟩:=xk.del B underlying67 k;have c:bE (λq=>d.ow q=-5/\q≠p.b) w w':=R.mono λq _ e=>by rw[e];exact⟨g,n⟩
  exact⟨w',λty=>by rw[f];exact P ty,u w' c (ak ⟨mb,f,g,n,Q⟩),c⟩
theorem G5(a:Nat)(mo:da)(x how:Int)(w w1:ag)(R:bt)(d:Hid (ai w a 3 (.map mo)))(h:∀ty,(Builtin.delete_ #[67,3] ty #[.map mo,ab x]).run Tryz.prog w=.ok (.tuple #[]) w1)(f:Hid (ao 46 #[aH a,af ⟨#[101,110,100]⟩,ab x,ab how,.agg #[ab 0,ab 0,af ⟨#[]⟩,ae none 0 0]] w1 λe w'=>e=.returned (.tuple #[])/\R w')):ao 80 #[aH a,ab x,ab how] w λe w'=>e=.returned (.tuple #[])/\R w':=by
 have g:=d.out;go_enter func80,ntmps80;go_wp2_with fail;refine f.mono ?_;rintro e i ⟨rfl,b⟩;have c:=ap b;clear b;go_wp2_with fail;exact dL (v:=.tuple #[]) (by simp[results]) rfl ⟨rfl,c⟩
theorem bC.drop(g:bC p s d w)(x how:Int)(k:d.es.length<=100000):ao 80 #[aH p.b,ab x,ab how] w λe w'=>e=.returned (.tuple #[])/\Hid (∃c,bC p (s.drop x how) c w'/\eA 1 d c w w'):=by
 obtain⟨f,m,h,n⟩:=g.del x;refine G5 p.b d.po x how w f _ g.cells.2.2.2 m ((h.tell tI x how 0 0 ⟨#[]⟩ none 0 0 sH (Kd f) k).mono λe w' a=>⟨a.1,?_⟩);obtain⟨c,i,j⟩:=a.2.up h;have o:eA 0 d {d with l:=d.l.eraseP λa=>a.1==x} w f:=⟨n.mono λa _ e=>by rw[e.1];decide,λ_ _=>rfl,rfl,av _,av _,av _⟩;exact⟨c,i,(o.trans j).mono (av _)⟩
end
theorem NI{w:ag}{base:Nat}{e:TypeId}{sz:Nat}{v:au}{n:Nat}{xs:cX}(b:w.ownsRow base e sz v n xs):∃a c,v=ae a n c:=by
 rcases b.2 with⟨rfl,rfl⟩|⟨g,c,d,rfl,_⟩
 ·exact⟨none,0,rfl⟩
 ·exact⟨_,c,rfl⟩
section
variable {p:lG} {s:Sy} {d:gE} {w:ag}
theorem bC.parted(a:bC p s d w){x:Int}(u:dN x)(h:Bool):ao 81 #[.pointer (some ⟨p.b,5,none⟩),ab x,.bool h] w λe w'=>∃v,e=.returned v/\Hid (jf w.heap.size v (p8 s.bonds x h) w'/\bC p {s with bonds:=wo s.bonds (x::p8 s.bonds x h)} d w'/\eA 0 d d w w'):=by
 refine(JS a.bd.1 a.bd.2.1 u h).mono ?_;rintro e w' ⟨v,rfl,l⟩;obtain⟨o,q,c⟩:=l;have f:∀b,d.ow b≠0->d.ow b=d.ow b:=λ_ _=>rfl;have j:∀b,d.ow b≠0->p.lo<=b/\b<w'.heap.size:=λb g=>⟨(a.low b g).1,aW (a.low b g).2 c.size⟩;have t:∀{t:Int},t≠ -2->∀b,d.ow b=t->¬d.bo=some b:=λr b e z=>r (e.symm.trans (a.bd.2.2 b z));have i:w'.heap[p.b]?=some (.cells (eF p s d) 74):=(c.block p.b a.lo.2 (t (by decide) p.b a.own)).trans a.box;obtain⟨y1,y2,y⟩:=a.wyK c (t (by decide)) f rfl (qV i).1;obtain⟨m,n⟩:=a.evK c (t (by decide)) f;exact⟨v,rfl,o,⟨j,i,a.own,⟨a.pgK c (t (by decide)) f,a.pg.2⟩,a.pmK c (λb e _=>t (by decide) b e) f,a.keys,λk b g=>a.psK c (av _) (t (by have:=(a.key g).1;omega)) f j g,⟨y1,y2,a.wy.2.2.1,a.wy.2.2.2.1,y⟩,⟨q,a.bd.2.1.wo _,a.bd.2.2⟩,m,a.evt.1,n⟩,c.mono λb _ e=>by rw[a.bd.2.2 b e];decide,λ_ _=>rfl,rfl,av _,av _,av _⟩
theorem M6{g:aY->Bool}(b:A1 g)(x:Int)(a:Bool):(p8 g x a).length<=99:=by
 unfold p8;split
 ·simp
 ·exact(Fe b x).le
theorem Kp(b:Nat)(x how:Int)(w:ag)(l:List Int)(L:Nat)(h:Bool)(R:ar->Nat->Nat->bt)(D:L<=99)(z:Hid (l.length=L))(s:h=(how==1))(o:Hid (ao 80 #[aH b,ab x,ab how] w λe w'=>e=.returned (.tuple #[])/\Hid (ao 81 #[.pointer (some ⟨b,5,none⟩),ab x,.bool h] w' λe w'=>∃a c,e=.returned (ae a L c)/\Hid (R a c 0 w'))))(A:Hid (∀a c j W,R a c j W->(∀(i:Nat)(k:Int),l[i]?=some k->∃g,a=some ⟨g,0,none⟩/\ai W g i (ab k))/\∀y,l[j]?=some y->ao 80 #[aH b,ab y,ab 4] W λe w'=>e=.returned (.tuple #[])/\Hid (R a c (j+1) w'))):ao 48 #[aH b,ab x,ab how] w λe w'=>e=.returned (.tuple #[])/\Hid (∃a c,R a c L w'):=by
 go_enter func48,ntmps48;go_wp2_with fail;refine o.mono ?_;rintro e I ⟨rfl,n⟩;have E:(how==1)=h:=s.symm;clear o s;go_wp2_with fail;refine n.mono ?_;rintro e J ⟨a,c,rfl,d⟩;clear n;go_wp2_with fail;go_loopw [7,20] (λ_ i wr=>∃j:Nat,j<=L/\i=ab j/\Hid (R a c j wr)) (λ_ i _=>L-(intOf i).toNat)
 case atStart=>exact⟨0,aM _,rfl,d⟩
 case round=>
 obtain⟨j,F,rfl,f⟩:=hrel;by_cases C:j<L
 ·obtain⟨y,m⟩:∃y,l[j]?=some y:=⟨l[j]'(by rw[z.out];exact C),aN _⟩;obtain⟨q,r⟩:=A a c j wr f;obtain⟨g,rfl,B⟩:=q j y m;have p:=ap (r y m);have G:(0:Int)<=(j:Int):=by omega
  have H:(j:Int)<(L:Int):=by omega
  clear q r m d;go_wp2_with fail;refine p.mono ?_;rintro e K ⟨rfl,t⟩;clear p B;go_wp2_with fail;go_roundw
  case rel=>exact⟨j+1,by omega,by go_num,t⟩
  case measure=>simp[intOf];omega
 ·obtain rfl:j=L:=by omega
  have u:=ap f.out;clear f d;go_wp2_with fail;exact dL (v:=.tuple #[]) (by simp[results]) rfl ⟨rfl,a,c,u⟩
theorem bC.fin(F:bC p s d w){x how:Int}(O:dN x)(ad:d.es.length<=99000):ao 48 #[aH p.b,ab x,ab how] w λe w'=>e=.returned (.tuple #[])/\Hid (∃h,bC p (s.fin x how) h w'/\eA 100 d h w w'):=by
 have I:=M6 F.bd.2.1 x (how==1);obtain⟨l,z⟩:∃l,l=p8 s.bonds x (how==1):=⟨_,rfl⟩;rw[<-z]at I;refine(Kp p.b x how w l l.length (how==1) (λf c B n=>∃h base,bC p ((l.take B).foldl (λs D=>s.drop D 4) {s.drop x how with bonds:=wo s.bonds (x::l)}) h n/\eA (1+B) d h w n/\jf base (ae f l.length c) l n/\∀a,(Value.slice f l.length c).ownBlock=some a->h.ow a=0) I rfl rfl ?_ ?_).mono ?_
 ·refine(F.drop x how (by omega)).mono ?_;rintro e ai ⟨rfl,m⟩;obtain⟨d1,G,S⟩:=m.out;refine⟨rfl,(G.parted O (how==1)).mono ?_⟩;rintro e aj ⟨T,rfl,L⟩;obtain⟨v,K,R⟩:=L;have i:(s.drop x how).bonds=s.bonds:=rfl;rw[i,<-z]at v K;obtain⟨f,c,rfl⟩:∃f c,T=ae f l.length c:=NI v;refine⟨f,c,rfl,d1,_,K,(S.trans R).mono (by omega),v,λa A=>?_⟩;have aa:=(v.lt a A).1;by_cases H:d1.ow a=0
  ·exact H
  ·have:=(G.low a H).2;omega
 ·rintro f c B n ⟨h,base,r,t,u,E⟩;refine⟨λP k o=>?_,λD J=>?_⟩
  ·obtain⟨V,W,e,q⟩:=u.row;injection e with i _ y;subst i y;rcases u.2 with⟨e,M⟩|⟨g,X,Y,e,_⟩
   ·rw[bL M]at o;simp at o
   ·injection e with i _ y;subst i y;rcases q with q|⟨Z,ah,e,ag,q⟩
    ·rw[q]at o;simp at o
    ·injection e with e;injection e with i N;subst i N;have:=q P k o;rw[cT]at this;exact⟨_,rfl,this⟩
  ·have af:=(aZ.1 J).1;refine(r.drop D 4 (by have:=t.2.2.2.1;omega)).mono ?_;rintro e w' ⟨rfl,m⟩;obtain⟨d2,Q,C⟩:=m.out;have A:∀a,(Value.slice f l.length c).ownBlock=some a->a<n.heap.size:=λa j=>(u.lt a j).2;refine⟨rfl,d2,base,?_,(t.trans C).mono (by omega),bB u C.1 λa j U=>by rw[E a j]at U;omega,λa j=>(C.2.1 a (A a j)).trans (E a j)⟩;rw[dF,J,jF];exact Q
 ·rintro e w' ⟨rfl,m⟩;obtain⟨f,c,h,base,r,t,_⟩:=m;refine⟨rfl,h,?_,t.mono (by omega)⟩;rw[bD (av _)]at r;unfold Sy.fin;rw[<-z];exact r
end
section
variable {p:lG} {s:Sy} {d:gE} {w:ag}
theorem bC.linkB(c:bC p s d w){x y:Int}(I:dN x)(J:dN y)(E:d.bn<1000000):ao 122 #[.pointer (some ⟨p.b,5,none⟩),ab x,ab y] w λe w'=>e=.returned (ab (vT x y))/\Hid (∃o,bC p {s with bonds:=if vT x y=0 then fK s.bonds (js x y) true else s.bonds} o w'/\eA 1 d o w w'):=by
 refine(GL c.bd.1 I J E).mono ?_;rintro e w' ⟨rfl,z⟩;obtain⟨mo,f,g,C⟩:=z;have G:=g.size;have i:∀b,MO (Ow p s d) d.bo b->b=p.b\/d.ow b=-2:=λb e=>e.imp id (c.bd.2.2 b);have F:mo≠some p.b:=λe=>by
  subst e;exact f.ne rfl
 have t:∀{t:Int},t≠ -2->t≠ -5->∀b,d.ow b=t->¬MO (Ow p s d) d.bo b:=λf D b e a=>by
  rcases i b a with a|a
  ·rw[a,c.own]at e;exact D e.symm
  ·exact f (e.symm.trans a)
 have q:w'.heap[p.b]?=some (.cells (eF p {s with bonds:=if vT x y=0 then fK s.bonds (js x y) true else s.bonds} {d with ow:=Ge d w w' (-2),bo:=mo,bn:=d.bn+1}) 74):=by
  have:=f.2.1.2;simpa [Ow,eF]using this
 have v:=uK (t:=-2) c G c.lo.1;have h:=uL (w':=w') (t:=-2) c;obtain⟨A,B⟩:=qV q;obtain⟨y1,y2,M⟩:=c.wyK g (t (by decide) (by decide)) h rfl A;obtain⟨l,m⟩:=c.evK g (t (by decide) (by decide)) h;refine⟨rfl,{d with ow:=Ge d w w' (-2),bo:=mo,bn:=d.bn+1},⟨v,q,(h p.b (by rw[c.own];decide)).trans c.own,⟨c.pgK g (t (by decide) (by decide)) h,c.pg.2⟩,c.pmK g (λb l m a=>?_) h,c.keys,λk b j=>c.psK g (av _) (t (by have:=(c.key j).1;omega) (by have:=(c.key j).1;omega)) h v j,⟨y1,y2,c.wy.2.2.1,c.wy.2.2.2.1,M⟩,⟨?_,?_,λb e=>?_⟩,l,c.evt.1,m⟩,g.mono λb _ e=>?_,λj N=>if_neg (by omega),rfl,fN _,fN _,av _⟩
 ·rcases i b a with a|a
  ·exact m a
  ·rw[l]at a;cases a
 ·exact⟨f.1,B,f.2.2⟩
 ·show A1 (if vT x y=0 then fK s.bonds (js x y) true else s.bonds);split
  ·rename_i n;intro k r;by_cases u:k=js x y
   ·subst u;unfold vT at n;split at n
    ·rename_i H;obtain⟨K,L,O⟩:=H;simp only[oD,aK,cw]at K L;unfold js;simp only;omega
    ·cases n
   ·rw[bK _ _ u]at r;exact c.bd.2.1 k r
  ·exact c.bd.2.1
 ·rcases C b (ak e)with a|a
  ·rcases i b a with a|a
   ·subst a;exact absurd e F
   ·exact(h b (by rw[a];decide)).trans a
  ·have:=(f.lt b (ak e)).2;exact if_pos ⟨a,this⟩
 ·rcases i b e with a|a
  ·rw[a,c.own];decide
  ·rw[a];decide
theorem Nv(d:Nat)(a b:Int)(r:Bool)(v:Int)(w:ag)(R:bt)(f:Hid (ao 51 #[aH d,ab b] w λe w'=>e=.returned (.bool r)/\w'=w))(i:Hid (r=false->R w))(j:Hid (r=true->ao 122 #[.pointer (some ⟨d,5,none⟩),ab a,ab b] w λe w'=>e=.returned (ab v)/\Hid (R w'))):ao 83 #[aH d,ab a,ab b] w λe w'=>e=.returned (.tuple #[])/\Hid (R w'):=by
 go_enter func83,ntmps83;go_wp2_with fail;refine f.mono ?_;rintro e k ⟨rfl,g⟩;obtain rfl:=g.symm;clear g f;cases r
 ·have c:=ap (i rfl);go_wp2_with fail;exact dL (v:=.tuple #[]) (by simp[results]) rfl ⟨rfl,c⟩
 ·have c:=ap (j rfl);go_wp2_with fail;refine c.mono ?_;rintro e l ⟨rfl,h⟩;go_wp2_with fail;exact dL (v:=.tuple #[]) (by simp[results]) rfl ⟨rfl,h⟩
theorem bC.link(f:bC p s d w){a b:Int}(g:dN a)(h:dN b)(i:d.bn<1000000):ao 83 #[aH p.b,ab a,ab b] w λe w'=>e=.returned (.tuple #[])/\Hid (∃c,bC p (s.link a b) c w'/\eA 1 d c w w'):=by
 refine Nv p.b a b (s.get b).isSome (vT a b) w (λw'=>∃c,bC p (s.link a b) c w'/\eA 1 d c w w') (f.isAlive b) (λe=>⟨d,?_,(eA.later d (aA _ _)).mono (aM _)⟩) λe=>?_
 ·unfold Sy.link;rw[e];exact f
 ·unfold Sy.link;rw[e];exact f.linkB g h i
end
section
variable {p:lG} {s:Sy} {d:gE} {w:ag}
theorem LF{m:Nat}{x:Tm (m+1)}(c:bJ (m+1) x=0)(a b:Int)(L:Nat):mx 12 a b (bf 13 (m+1) x) L=mx 12 a b (cn (m+1) x) L:=by
 have f:aJ ⟨m+1,x⟩:=aU.2 (bM.1 c).1;have e:=jS 13 (m+1) x f (by have:=(bM.1 c).2.1;omega);have d:=eI c;unfold mx;rw[cd e,cR _ _ _ _ e,cd d,cR _ _ _ _ d]
theorem bC.sendW(g:bC p s d w){a b:Int}(ai:I2 (a,b)){m:Nat}(x:Tm (m+1))(ap:In w.heap.size w (m+1) x)(A:bJ (m+1) x=0)(al:d.wn<999999):ao 121 #[.pointer (some ⟨p.b,4,none⟩),ab a,ab b,dG (m+1) x] w λe w'=>e=.returned (ab (mx 12 a b (cn (m+1) x) (s.ways (a,b)).length))/\Hid (∃o,bC p (if mx 12 a b (cn (m+1) x) (s.ways (a,b)).length=0 then {s with ways:=fK s.ways (a,b) (s.ways (a,b)++ [cn (m+1) x])}else s) o w'/\eA 1 d o w w'):=by
 have Y:aJ ⟨m+1,x⟩:=aU.2 (bM.1 A).1;have U:fU (m+1) x<13:=by have:=(bM.1 A).2.1;omega
 have Z:=jS 13 (m+1) x Y U;have V:(d.f (a,b)).length=(s.ways (a,b)).length:=by
  have:=congrArg List.length (g.wy.2.2.1 (a,b));simpa using this
 have ax:(d.f (a,b)).length<=20:=g.wy.2.2.2.1 _;have an:dG (m+1) x=dG (12+1) (bf 13 (m+1) x):=(Af 12 m x).symm;rw[an];have S:bJ 13 (bf 13 (m+1) x)=0:=(cd Z).trans A;refine(LG (N:=12) g.wy.1 ai (bf 13 (m+1) x) (tb 13 (m+1) x _ _ Y U ap) (fD S) al (by omega)).mono ?_;rintro e w' ⟨rfl,y,P⟩;rw[V,LF A]at y P ⊢;refine⟨rfl,?_⟩;by_cases j:mx 12 a b (cn (m+1) x) (s.ways (a,b)).length=0;rotate_left
 ·rw[if_neg j];exact⟨d,g.later (y j),(eA.later d (y j)).mono (aM _)⟩
 rw[if_pos j];obtain⟨n,mo,sl,aa,C,r,K,ad,aq⟩:=P j;have Q:aT 13 (cn (m+1) x)=true/\(s.ways (a,b)).length<20:=by
  unfold mx gQ at j;split at j
  ·cases j
  ·split at j
   ·rename_i i;exact absurd j i
   ·split at j
    ·cases j
    ·rename_i i;split at j
     ·cases j
     ·exact⟨by simpa using i,by omega⟩
 have R:cn 13 n=cn (m+1) x:=(iK aa).trans (iK Z);have T:bJ 13 n=0:=(cd aa).trans S;have aj:aT 13 n=true:=by
  have:=cR _ _ _ _ (eI T);rw[R]at this;exact this.symm.trans Q.1
 have am:=r.size;have B:=g.wy.2.1;have t:∀{t:Int},t≠ -1->t≠ -5->∀b,d.ow b=t->¬sG (AY p s d) d.wo d.sl b:=λy ah b e c=>by
  rcases B b c with c|c
  ·rw[c,g.own]at e;exact ah e.symm
  ·exact y (e.symm.trans c)
 obtain⟨o,v⟩:∃o,o={d with ow:=Ge d w w' (-1),wo:=mo,wn:=d.wn+1,f:=fK d.f (a,b) (d.f (a,b)++ [n]),sl:=sl}:=⟨_,rfl⟩;obtain⟨E,I⟩:∃E,E={s with ways:=fK s.ways (a,b) (s.ways (a,b)++ [cn (m+1) x])}:=⟨_,rfl⟩;have H:w'.heap[p.b]?=some (.cells (eF p E o) 74):=by
  have:=C.2.1.2;rw[I,v];simpa [AY,eF]using this
 have W:=uK (t:=-1) g am g.lo.1;have q:=uL (w':=w') (t:=-1) g;obtain⟨M,O⟩:=qV H;rw[v]at O;have ay:∀h,sG (AY p E o) mo sl h->sG (AY p s d) d.wo d.sl h\/w.heap.size<=h:=K;obtain⟨F,G⟩:=g.evK r (t (by decide) (by decide)) q;refine⟨o,?_,?_⟩
 ·rw[<-I,v];rw[I]at*;refine⟨W,by rw[v]at H;exact H,(q p.b (by rw[g.own];decide)).trans g.own,⟨g.pgK r (t (by decide) (by decide)) q,g.pg.2⟩,g.pmK r (λb F G c=>?_) q,g.keys,λk b h=>g.psK r (av _) (t (by have:=(g.key h).1;omega) (by have:=(g.key h).1;omega)) q W h,⟨?_,λh c=>?_,λk=>?_,λk=>?_,λk c i=>?_⟩,g.bdK r (t (by decide) (by decide)) q rfl O,F,g.evt.1,G⟩
  ·rcases B b c with c|c
   ·exact G c
   ·rw[F]at c;cases c
  ·rw[v]at M;exact⟨C.1,M,C.2.2⟩
  ·rcases K h c with z|z
   ·exact(B h z).imp id λe=>(q h (by rw[e];decide)).trans e
   ·exact ak (if_pos ⟨z,(C.lt h c).2⟩)
  ·by_cases l:k=(a,b)
   ·subst l;show (fK d.f (a,b) (d.f (a,b)++ [n]) (a,b)).map (cn 13)=fK s.ways (a,b) (s.ways (a,b)++ [cn (m+1) x]) (a,b);rw[cE,cE,gV,g.wy.2.2.1,aV,cF,R]
   ·show (fK d.f (a,b) (d.f (a,b)++ [n]) k).map (cn 13)=fK s.ways (a,b) (s.ways (a,b)++ [cn (m+1) x]) k;rw[bK _ _ l,bK _ _ l];exact g.wy.2.2.1 k
  ·by_cases l:k=(a,b)
   ·subst l;show (fK d.f (a,b) (d.f (a,b)++ [n]) (a,b)).length<=20;rw[cE,bz,V];have:=Q.2;simp;omega
   ·show (fK d.f (a,b) (d.f (a,b)++ [n]) k).length<=20;rw[bK _ _ l];exact g.wy.2.2.2.1 k
  ·have i:c∈fK d.f (a,b) (d.f (a,b)++ [n]) k:=i;have X:∀J,∀c∈d.f J,bJ 13 c=0/\aT 13 c=true/\In w'.heap.size w' 13 c/\cD (λh=>Ge d w w' (-1) h=-1/\¬sG (AY p s d) mo sl h) 13 c:=λJ c i=>by
    obtain⟨ar,au,ae,aw⟩:=g.wy.2.2.2.2 J c i;have af:=eJ r (D:=λh=>(d.ow h=-1/\¬sG (AY p s d) d.wo d.sl h)/\h<w.heap.size) (λh z L=>z.1.2 L) ⟨ae,In.offB aw ae⟩;refine⟨ar,au,af.1,af.2.mono λh u=>⟨(q h (by rw[u.1.1];decide)).trans u.1.1,λL=>?_⟩⟩;rcases K h L with ag|ag
    ·exact u.1.2 ag
    ·omega
   by_cases l:k=(a,b)
   ·subst l;rw[cE]at i;rcases de.1 i with i|i
    ·exact X _ c i
    ·obtain rfl:=dC.1 i;exact⟨T,aj,ad,(In.offB aq ad).mono λh u=>⟨if_pos ⟨u.1.1,u.2⟩,u.1.2⟩⟩
   ·rw[bK _ _ l]at i;exact X _ c i
 ·rw[v]
  exact⟨r.mono λb _ e=>by
   rcases B b e with c|c
   ·rw[c,g.own];decide
   ·rw[c];decide,λh az=>if_neg (by omega),rfl,fN _,av _,fN _⟩
end
theorem dv{w w':ag}(b:am w w'){q:Nat}{o:Obj}(a:w.heap[q]?=some o):w'.heap[q]?=some o:=(b.block q (aI.1 a).1).trans a
theorem EZ(x:Nat)(a b c d:Int)(f:aq)(xa:ar)(g xc:Nat)(v:Int)(w:ag)(C R:bt)(A:Hid (∀W,am w W->ao 121 #[.pointer (some ⟨x,4,none⟩),ab a,ab b,.agg #[ab c,ab d,af f,ae xa g xc]] W λe w'=>e=.returned (ab v)/\Hid (C w'/\∀q,w.heap.size<=q->q<W.heap.size->w'.heap[q]?=W.heap[q]?)))(B:Hid (∀W,C W->ao 46 #[aH x,af (if v=0 then ⟨#[115,101,110,100]⟩else ⟨#[108,111,115,116]⟩),ab a,ab b,.agg #[ab c,ab d,af f,ae xa g xc]] W λe w'=>e=.returned (.tuple #[])/\Hid (R w'))):ao 82 #[aH x,ab a,ab b,.agg #[ab c,ab d,af f,ae xa g xc]] w λe w'=>e=.returned (.tuple #[])/\Hid (R w'):=by
 go_enter func82,ntmps82;go_upto_region 1 with fail;generalize D:w.alloc _=h;have n:Hid (am w h/\h.heap[w.heap.size]?=some (.cells #[ab c,ab d,af f,ae xa g xc] 31)):=by
  rw[<-D];exact⟨aS _ _,aD _ _⟩
 clear D;obtain⟨q,m⟩:∃q,q=w.heap.size:=⟨_,rfl⟩;rw[<-m];have s:Hid (h.heap[q]?=some (.cells #[ab c,ab d,af f,ae xa g xc] 31)):=by rw[m];exact n.2
 have HB:=ap n.1;have E:=ap m;clear m n;have r:Hid (am h h.drew):=(aA _ _).drew;have z:=ap (HB.trans (r.mono HB.size));have k:=ap (dv r s);have i:Hid (∀W:ag,W.heap[q]?=some (.cells #[ab c,ab d,af f,ae xa g xc] 31)->ai W q 0 (ab c)/\ai W q 1 (ab d)/\ai W q 2 (af f)/\ai W q 3 (ae xa g xc)):=λW l=>⟨ah l 0,ah l 1,ah l 2,ah l 3⟩;obtain⟨F,G,H,I⟩:=i.out h s
 go_region_held3 (λW=>W.cell? ⟨q,0,none⟩=some (ab c)/\W.cell? ⟨q,1,none⟩=some (ab d)/\W.cell? ⟨q,2,none⟩=some (af f)/\W.cell? ⟨q,3,none⟩=some (ae xa g xc))
  (first|exact i _ k|exact i _ t) ((first
   | (go_at_call 121;refine(A _ z).mono ?_;rintro e y ⟨rfl,o⟩;have t:Hid (y.heap[q]?=some (.cells #[ab c,ab d,af f,ae xa g xc] 31)):=(o.2 q (by have:=E.out;omega) (aI.1 k).1).trans k)))
 obtain⟨d0,d1,d2,d3⟩:=i.out y t;have j:=ap (B y o.1);clear F G H I A B i o t k z r HB s;by_cases u:v=0
 ·subst u;rw[if_pos rfl]at j;go_wp2_with fail;refine j.mono ?_;rintro e J ⟨rfl,p⟩;go_wp2_with fail;exact dL (v:=.tuple #[]) (by simp[results]) rfl ⟨rfl,p⟩
 ·rw[if_neg u]at j;have K:(v==0)=false:=by simpa using u
  go_wp2_with fail;refine j.mono ?_;rintro e J ⟨rfl,p⟩;go_wp2_with fail;exact dL (v:=.tuple #[]) (by simp[results]) rfl ⟨rfl,p⟩
section
variable {p:lG} {s:Sy} {d:gE} {w:ag}
def Gv(d:gE)(w:ag){m:Nat}(x:Tm m):Prop:=In w.heap.size w m x/\cD (λq=>0<=d.ow q) m x
theorem Gv.up{a m:Nat}{x:Tm m}{f:gE}{w':ag}(c:Gv d w x)(k:eA a d f w w'):Gv f w' x:=by
 have g:=eJ k.1 (D:=λb=>0<=d.ow b/\b<w.heap.size) (λb e h=>by omega) ⟨c.1,In.offB c.2 c.1⟩;exact⟨g.1,g.2.mono λb e=>by rw[k.2.1 b e.2];exact e.1⟩
theorem bC.send(o:bC p s d w){a b:Int}(z:I2 (a,b)){m:Nat}(x:Tm (m+1))(t:Gv d w x)(q:bJ (m+1) x=0)(A:d.wn<999999)(D:d.es.length<100000):ao 82 #[aH p.b,ab a,ab b,dG (m+1) x] w λe w'=>e=.returned (.tuple #[])/\Hid (∃j,bC p (s.send a b (cn (m+1) x)) j w'/\eA 2 d j w w'):=by
 obtain⟨i,r⟩:∃i,i=mx 12 a b (cn (m+1) x) (s.ways (a,b)).length:=⟨_,rfl⟩;refine EZ p.b a b x.1.1 x.1.2.1 x.1.2.2 x.2.1.1 x.2.2.length x.2.1.2 i w (λc=>∃d1,bC p (if i=0 then {s with ways:=fK s.ways (a,b) (s.ways (a,b)++ [cn (m+1) x])}else s) d1 c/\eA 1 d d1 w c) (λc=>∃j,bC p (s.send a b (cn (m+1) x)) j c/\eA 2 d j w c) (λc g=>?_) λc g=>?_
 ·refine((o.later g).sendW z x ((t.1.below g).mono g.size) q A).mono ?_;rintro e w' ⟨rfl,k⟩;rw[<-r]at k ⊢;obtain⟨d1,n,h⟩:=k.out;refine⟨rfl,⟨d1,n,((eA.later d g).trans h).mono (av _)⟩,λu C y=>h.1.block u y λE=>?_⟩;have:=(o.low u (by omega)).2;omega
 ·obtain⟨d1,n,h⟩:=g;have B:=t.up h;refine(n.tell (if i=0 then dV else j9) a b x.1.1 x.1.2.1 x.1.2.2 x.2.1.1 x.2.2.length x.2.1.2 (cn (m+1) x) (kO B.1 q) (by have:=h.2.2.2.1;omega)).mono ?_;rintro e w' ⟨rfl,k⟩;obtain⟨d2,f,v⟩:=k.up n;refine⟨rfl,d2,?_,(h.trans v).mono (av _)⟩;unfold Sy.send;rw[<-r];by_cases l:i=0
  ·rw[if_pos l]at f ⊢;rw[if_pos l]at f;exact f
  ·rw[if_neg l]at f ⊢;rw[if_neg l]at f;exact f
end
def gG(a c:Nat)(d b:gE)(w w':ag):Prop:=bE (λq=>d.ow q≠0) w w'/\(∀q,q<w.heap.size->b.ow q=d.ow q)/\b.k<=d.k+c/\b.es.length<=d.es.length+a/\b.wn<=d.wn+a/\b.bn<=d.bn+a
theorem gG.trans{a b c e:Nat}{d d1 d2:gE}{w w1 w2:ag}(j:gG a c d d1 w w1)(k:gG b e d1 d2 w1 w2):gG (a+b) (c+e) d d2 w w2:=by
 obtain⟨h,i,n,o,p,q⟩:=j;obtain⟨l,m,s,t,u,v⟩:=k;have r:=h.size;exact⟨h.trans l λf g e=>by rw[i f g]at e;exact e,λf g=>(m f (by omega)).trans (i f g),by omega,by omega,by omega,by omega⟩
theorem gG.mono{a b c e:Nat}{d d1:gE}{w w1:ag}(f:gG a c d d1 w w1)(m:a<=b)(n:c<=e):gG b e d d1 w w1:=by
 obtain⟨g,h,i,j,k,l⟩:=f;exact⟨g,h,by omega,by omega,by omega,by omega⟩
theorem eA.un{a:Nat}{d d1:gE}{w w1:ag}(b:eA a d d1 w w1):gG a 0 d d1 w w1:=⟨b.1.mono λq _ e=>by omega,b.2.1,by have:=b.2.2.1;omega,b.2.2.2⟩
theorem BE{c:Type}(k j:Int)(v:c):(l:List (Int×c))->(l.map λp=>if p.1=k then (k,v)else p).find? (λp=>p.1==j)=(l.find? λp=>p.1==j).map λp=>if p.1=k then (k,v)else p
 | []=>rfl
 | a::l=>by
  rw[aV,fL,fL,BE k j v l];by_cases b:a.1=k
  ·rw[if_pos b];simp only[b];cases k==j<;>simp[b]
  ·rw[if_neg b];cases a.1==j<;>simp[b]
theorem P1.lie2{a f:Nat}{name:aq}{room:Int}{cs:Tc}{c:List Tc}{k:Nat}{M:aO}{w:ag}(d:P1 a f name room cs c k M w):∀b,M b->a<=b/\b<w.heap.size:=by
 obtain⟨base,p,n,s,o,q,r,l,m,g,h,i,j,e⟩:=d;exact e
section
variable {p:lG} {s:Sy} {d:gE} {w:ag}
theorem FU(s:Sy)(k j:Int)(v:aq×Tc×List Tc):(s.put k v).get j=if j=k then (s.get k).map λ_=>v else s.get j:=by
 unfold Sy.put Sy.get;simp only;rw[BE];by_cases a:j=k
 ·subst a;rw[if_pos rfl];cases e:s.ps.find? (λp=>p.1==j)with
  | none=>rfl
  | some b=>
   have:=List.find?_some e;simp only[cv]at this;simp[this]
 ·rw[if_neg a];cases e:s.ps.find? (λp=>p.1==j)with
  | none=>rfl
  | some b=>
   have:=List.find?_some e;simp only[cv]at this;simp[this,a]
theorem vK(s:Sy)(k:Int)(v:aq×Tc×List Tc):(s.put k v).ps.map (·.1)=s.ps.map (·.1):=by
 unfold Sy.put;simp only[gW];refine jH λb _=>?_;by_cases a:b.1=k
 ·simp[a]
 ·simp[a]
theorem bC.turnP(a:bC p s d w){k:Int}{b:Nat}(y:dl d.l k=some b){nm:aq}{cs m:Tc}{F i:List Tc}(S:s.get k=some (nm,cs,F)){w':ag}(e:bE (λq=>d.ow q=k) w w'){N:aO}{j:Nat}(Q:∀q,N q->d.ow q=k\/w.heap.size<=q)(T:d.k<=j)(x:P1 p.lo b nm p.room m i (j+201) N w')(P:i.length<=20):bC p (s.put k (nm,m,i)) {d with ow:=Ge d w w' k,k:=j} w'/\gG 0 (j-d.k) d {d with ow:=Ge d w w' k,k:=j} w w':=by
 have Z:=(a.key y).1;have v:=uK (t:=k) a e.size a.lo.1;have f:=uL (w':=w') (t:=k) a;have R:∀q,N q->p.lo<=q/\q<w'.heap.size:=P1.lie2 x;have t:∀{t:Int},t≠k->∀q,d.ow q=t->¬d.ow q=k:=λW q h g=>W (h.symm.trans g);have r:w'.heap[p.b]?=some (.cells (eF p s d) 74):=(e.block p.b a.lo.2 (t (by omega) p.b a.own)).trans a.box;obtain⟨y1,y2,Y⟩:=a.wyK e (t (by omega)) f rfl (qV r).1;obtain⟨G,H⟩:=a.evK e (t (by omega)) f;obtain⟨I,J,K,L,M,O⟩:=a.keys;have U:∀q∈(s.put k (nm,m,i)).ps,1<=q.1/\q.1<=s.last:=λq z=>by
  have:q.1∈(s.put k (nm,m,i)).ps.map (·.1):=cu.2 ⟨q,z,rfl⟩;rw[vK]at this;obtain⟨X,V,h⟩:=cu.1 this;rw[<-h];exact K X V
 refine⟨⟨v,r,(f p.b (by rw[a.own];decide)).trans a.own,⟨a.pgK e (t (by omega)) f,a.pg.2⟩,a.pmK e (λq h _=>t (by omega) q h) f,⟨by rw[vK];exact I,by rw[vK];exact J,U,L,M,by unfold Sy.put;simpa using O⟩,λn c q=>?_,⟨y1,y2,a.wy.2.2.1,a.wy.2.2.2.1,Y⟩,a.bdK e (t (by omega)) f rfl (qV r).2,G,a.evt.1,H⟩,e.mono λq _ h=>by rw[h];omega,λq z=>if_neg (by omega),by show j<=_;omega,av _,av _,av _⟩;by_cases u:n=k
 ·subst u;have q:dl d.l n=some c:=q;rw[y]at q;obtain rfl:=az q;refine⟨nm,m,i,by rw[FU,if_pos rfl,S];rfl,x.mono (λq g=>?_) (av _) λq g=>v q (by have g:Ge d w w' n q=n:=g;rw[g];omega),P⟩;rcases Q q g with o|o
  ·exact(f q (by rw[o];omega)).trans o
  ·exact if_pos ⟨o,(R q g).2⟩
 ·obtain⟨A,B,C,D,E⟩:=a.psK e T (t u) f v q;exact⟨A,B,C,by rw[FU,if_neg u];exact D,E⟩
end
theorem IX(i K:Nat)(mo:da)(a b d f:Int)(g:aq)(xa:ar)(h xc:Nat)(v:Int)(w:ag)(o R:bt)(U:i<w.heap.size)(L:Hid (ai w i 3 (.map mo)))(G:Hid (∀W,am w W->(Instr.lookup 67 (.map mo) (ab b) false).run Tryz.prog W=.ok (aH K) W))(H:Hid (∀W,am w W->ao 85 #[aH K,.agg #[ab d,ab f,af g,ae xa h xc]] W λe w'=>e=.returned (ab v)/\Hid (o w'/\∀q,w.heap.size<=q->q<W.heap.size->w'.heap[q]?=W.heap[q]?)))(n:Hid (v=2->∀W,o W->ao 46 #[aH i,af ⟨#[108,111,115,116]⟩,ab a,ab b,.agg #[ab d,ab f,af g,ae xa h xc]] W λe w'=>e=.returned (.tuple #[])/\Hid (R w')))(l:Hid (v=6->∀W,o W->ao 48 #[aH i,ab b,ab 3] W λe w'=>e=.returned (.tuple #[])/\Hid (R w')))(m:Hid (v≠2->v≠6->∀W,o W->R W)):ao 52 #[aH i,ab a,ab b,.agg #[ab d,ab f,af g,ae xa h xc]] w λe w'=>e=.returned (.tuple #[])/\Hid (R w'):=by
 go_enter func52,ntmps52;go_upto_region 1 with fail;generalize J:w.alloc _=c;have t:Hid (am w c/\c.heap[w.heap.size]?=some (.cells #[ab d,ab f,af g,ae xa h xc] 31)):=by
  rw[<-J];exact⟨aS _ _,aD _ _⟩
 clear J;obtain⟨q,s⟩:∃q,q=w.heap.size:=⟨_,rfl⟩;rw[<-s];have C:Hid (c.heap[q]?=some (.cells #[ab d,ab f,af g,ae xa h xc] 31)):=by rw[s];exact t.2
 have HB:=ap t.1;have M:=ap s;clear s t;have A:Hid (am c c.drew):=(aA _ _).drew;have y:=ap (HB.trans (A.mono HB.size));have D:=ap (dv A C);have z:Hid (∀W:ag,W.heap[q]?=some (.cells #[ab d,ab f,af g,ae xa h xc] 31)->ai W q 0 (ab d)/\ai W q 1 (ab f)/\ai W q 2 (af g)/\ai W q 3 (ae xa h xc)):=λW r=>⟨ah r 0,ah r 1,ah r 2,ah r 3⟩;obtain⟨N,O,P,Q⟩:=z.out c C;have S:ai c i 3 (.map mo):=(HB.cell (p:=⟨i,3,none⟩) U).trans L;have T:=G c.drew y
 go_region_with ((first
     | (go_at_call 85;refine(H _ y).mono ?_;rintro e k ⟨rfl,u⟩;have I:Hid (k.heap[q]?=some (.cells #[ab d,ab f,af g,ae xa h xc] 31)):=(u.2 q (by have:=M.out;omega) (aI.1 D).1).trans D)))
 all_goals
  obtain⟨d0,d1,d2,d3⟩:=z.out k I;have B:=ap u.1;clear N O P Q S T G H z u I D y A HB C;by_cases E:v=2
  ·subst E;have j:=ap (n (by simp) k B);clear n l m;go_wp2_with fail;refine j.mono ?_;rintro e V ⟨rfl,x⟩;go_wp2_with fail;exact dL (v:=.tuple #[]) (by simp[results]) rfl ⟨rfl,x⟩
  ·have X:(v==2)=false:=by simpa using E
   by_cases F:v=6
   ·subst F;have j:=ap (l (by simp) k B);clear n l m;go_wp2_with fail;refine j.mono ?_;rintro e V ⟨rfl,x⟩;go_wp2_with fail;exact dL (v:=.tuple #[]) (by simp[results]) rfl ⟨rfl,x⟩
   ·have Y:(v==6)=false:=by simpa using F
    have j:=ap (m E F k B);clear n l m;go_wp2_with fail;exact dL (v:=.tuple #[]) (by simp[results]) rfl ⟨rfl,j⟩
theorem M4{m:Nat}{x:Tm m}(a:bJ m x=0)(room:Int)(s:Tc)(ms:List Tc):kG m x room s ms=kG 13 (cn m x) room s ms:=by
 have b:=eI a;unfold kG;rw[cd b,cR _ _ _ _ b,FI a]
theorem Cu{d:Type}(k:Int)(v:d):(l:List (Int×d))->(l.map (·.1)).Nodup->(l.find? λp=>p.1==k).map (·.2)=some v->(l.map λp=>if p.1=k then (k,v)else p)=l
 | [],_,_=>rfl
 | a::l,hn,h=>by
  rw[aV,lq]at hn;rw[fL]at h;rw[aV];by_cases b:a.1=k
  ·have c:(a.1==k)=true:=by simpa using b
   rw[c]at h;have f:a.2=v:=by simpa using h
   rw[if_pos b];congr 1
   ·rw[<-f,<-b]
   ·refine(jH λi g=>?_).trans (List.map_id l);rw[if_neg λe=>hn.1 (cu.2 ⟨i,g,e.trans b.symm⟩)];rfl
  ·have c:(a.1==k)=false:=by simpa using b
   rw[c]at h;rw[if_neg b,Cu k v l hn.2 h]
theorem wE{s:Sy}{k:Int}{v:aq×Tc×List Tc}(b:(s.ps.map (·.1)).Nodup)(a:s.get k=some v):s.put k v=s:=by
 unfold Sy.put;rw[Cu k v s.ps b a]
section
variable {p:lG} {s:Sy} {d:gE} {w:ag}
theorem bC.deliver(h:bC p s d w){a b:Int}(W:dN b){nm:aq}{cs:Tc}{r:List Tc}(j:s.get b=some (nm,cs,r)){m:Nat}(x:Tm (m+1))(K:In w.heap.size w (m+1) x/\cD (λq=>¬1<=d.ow q) (m+1) x)(B:bJ (m+1) x=0)(Z:d.k<=47000)(Y:d.es.length<=98000):ao 52 #[aH p.b,ab a,ab b,dG (m+1) x] w λe w'=>e=.returned (.tuple #[])/\Hid (∃z,bC p (s.deliver p.room a b (cn (m+1) x)) z w'/\gG 100 201 d z w w'):=by
 obtain⟨v,H⟩:∃v,dl d.l b=some v:=by
  have:=h.alive b;rw[j]at this;cases e:dl d.l b with
  | none=>rw[e]at this;cases this
  | some v=>exact⟨v,rfl⟩
 obtain⟨X,P,O,G,S,T⟩:=h.ps b v H;rw[j]at G;obtain⟨rfl,rfl,rfl⟩:nm=X/\cs=P/\r=O:=by
  injection G with G;injection G with I A;injection A with A R;exact⟨I,A,R⟩
 have M:=(h.key H).1;obtain⟨y,C⟩:∃y,y=kG 13 (cn (m+1) x) p.room cs r:=⟨_,rfl⟩;have aa:bJ 13 (cn (m+1) x)=0:=(cd (eI B)).trans B;refine IX p.b v d.po a b x.1.1 x.1.2.1 x.1.2.2 x.2.1.1 x.2.2.length x.2.1.2 y w (λg=>∃d1,bC p (if y=0 then s.put b (nm,cs,r++ [cn (m+1) x])else s.put b (nm,cs,r)) d1 g/\gG 0 201 d d1 w g/\In g.heap.size g (m+1) x) (λg=>∃z,bC p (s.deliver p.room a b (cn (m+1) x)) z g/\gG 100 201 d z w g) h.lo.2 h.cells.2.2.2 (λg f=>?_) (λg f=>?_) (λe g f=>?_) (λe g f=>?_) λI A g f=>?_
 ·have:=(h.later f).look b false;rw[H]at this;exact this
 ·have V:=S.later f;have N:=(K.1.below f).mono f.size;refine(V.deliver x N (K.2.mono λq t F=>t (by rw[show d.ow q=b from F];exact M)) (fD B) (by omega) (by omega) (aF h.lo.1 f.size)).mono ?_;rintro e w' ⟨rfl,u⟩;rw[M4 B,<-C]at u ⊢;obtain⟨c,n⟩:=u.out;have J:bE (λq=>d.ow q=b) g w':=⟨c.os,c.tape,c.output,c.size,c.block⟩;have U:(if y=0 then r++ [cn (m+1) x]else r).length<=20:=by
   split
   ·rename_i i;rw[C]at i;unfold kG at i;split at i
    ·cases i
    ·simp;omega
   ·exact T
  obtain⟨o,E⟩:=(h.later f).turnP H j J (λq t=>t.1) (show d.k<=d.k+201 by omega) n U;refine⟨rfl,⟨_,?_,(((eA.later d f).un.trans E).mono (av _) (by omega)),?_⟩,λq ad F=>J.block q F λt=>?_⟩
  ·split
   ·rename_i i;rw[if_pos i]at o;exact o
   ·rename_i i;rw[if_neg i]at o;exact o
  ·exact(eJ J (D:=λq=>¬1<=d.ow q) (λq t F=>t (by rw[F];exact M)) ⟨N,K.2⟩).1
  ·have:=(h.low q (by rw[t];omega)).2;omega
 ·obtain⟨d1,c,n,L⟩:=f;rw[if_neg (by rw[e];decide),wE h.keys.2.1 j]at c;refine(c.tell j9 a b x.1.1 x.1.2.1 x.1.2.2 x.2.1.1 x.2.2.length x.2.1.2 (cn (m+1) x) (kO L B) (by have:=n.2.2.2.1;omega)).mono ?_;rintro Q w' ⟨rfl,u⟩;obtain⟨d2,o,E⟩:=u.out.up c;refine⟨rfl,d2,?_,(n.trans E.un).mono (by omega) (by omega)⟩;unfold Sy.deliver;rw[j];simp only;rw[<-C,if_pos e];exact o
 ·obtain⟨d1,c,n,L⟩:=f;rw[if_neg (by rw[e];decide),wE h.keys.2.1 j]at c;refine(c.fin (how:=3) W (by have:=n.2.2.2.1;omega)).mono ?_;rintro Q w' ⟨rfl,u⟩;obtain⟨d2,o,E⟩:=u;refine⟨rfl,d2,?_,(n.trans E.un).mono (by omega) (by omega)⟩;unfold Sy.deliver;rw[j];simp only;rw[<-C,if_neg (by rw[e];decide),if_pos e];exact o
 ·obtain⟨d1,c,n,L⟩:=f;refine⟨d1,?_,n.mono (by omega) (av _)⟩;unfold Sy.deliver;rw[j];simp only;rw[<-C,if_neg I,if_neg A];by_cases i:y=0
  ·rw[if_pos i]at c ⊢;exact c
  ·rw[if_neg i]at c ⊢;rw[wE h.keys.2.1 j]at c;exact c
end
theorem BT(x:Nat)(a i j:Int)(k:aq)(xa:ar)(l xc:Nat)(g cl:Bool)(b:Int)(w:ag)(R:Int->bt)(z:Hid (∀W,am w W->ao 51 #[aH x,ab a] W λe w'=>e=.returned (.bool g)/\w'=W))(G:Hid (∀W,am w W->ao 53 #[.agg #[ab i,ab j,af k,ae xa l xc]] W λe w'=>e=.returned (ab b)/\am W w'))(E:Hid (∀W,am w W->ao 54 #[.agg #[ab i,ab j,af k,ae xa l xc]] W λe w'=>e=.returned (.bool cl)/\am W w'))(F:Hid (g=true->b=0->cl=true->∀W,am w W->ao 52 #[aH x,ab 0,ab a,.agg #[ab i,ab j,af k,ae xa l xc]] W λe w'=>e=.returned (.tuple #[])/\Hid (R 0 w')))(r:Hid (∀W,am w W->(g=false->R 4 W)/\(g=true->b≠0->R b W)/\(g=true->b=0->cl=false->R 5 W))):ao 26 #[aH x,ab a,.agg #[ab i,ab j,af k,ae xa l xc]] w λe w'=>∃v,e=.returned (ab v)/\Hid (R v w'):=by
 go_enter func26,ntmps26;go_upto_region 1 with fail;generalize A:w.alloc _=y;have d:Hid (am w y/\y.heap[w.heap.size]?=some (.cells #[ab i,ab j,af k,ae xa l xc] 31)):=by
  rw[<-A];exact⟨aS _ _,aD _ _⟩
 clear A;go_wp2_with fail;refine(z _ d.1).mono ?_;rintro e K ⟨rfl,B⟩;obtain rfl:=B.symm;clear B z;cases g
 ·have h:=ap ((r y d.1).1 rfl);go_wp2_with fail
  go_ret
  exact⟨4,rfl,h⟩
 have c:=d.2;obtain⟨m,n,o,p⟩:=QR c;clear c;go_wp2_with fail;refine(G _ d.1).mono ?_;rintro e I ⟨rfl,s⟩;have f:=ap (⟨d.1.trans (s.mono d.1.size),dv s d.2⟩:_/\_);clear m n o p s;by_cases u:b=0;rotate_left
 ·have h:=ap ((r I f.1).2.1 (by simp) u);have J:(b !=0)=true:=by simpa using u
  go_wp2_with fail
  go_ret
  exact⟨b,rfl,h⟩
 subst u;have c:=f.2;obtain⟨m,n,o,p⟩:=QR c;clear c;go_wp2_with fail;refine(E _ f.1).mono ?_;rintro e C ⟨rfl,t⟩;have q:=ap (⟨f.1.trans (t.mono f.1.size),dv t f.2⟩:_/\_);clear m n o p t;cases cl
 ·have h:=ap ((r C q.1).2.2 (by simp) (by simp) (by simp));go_wp2_with fail
  go_ret
  exact⟨5,rfl,h⟩
 have c:=q.2;obtain⟨m,n,o,p⟩:=QR c;have H:=ap (F (by simp) (by simp) (by simp) C q.1);clear c;go_wp2_with fail;refine H.mono ?_;rintro e L ⟨rfl,D⟩;go_wp2_with fail
 go_ret
 exact⟨0,rfl,D⟩
section
variable {p:lG} {s:Sy} {d:gE} {w:ag}
theorem bC.inject(j:bC p s d w){a:Int}(y:dN a){m:Nat}(x:Tm (m+1))(l:In w.heap.size w (m+1) x/\cD (λq=>¬1<=d.ow q) (m+1) x)(u:(aC (m+1) x).length<=2097152)(A:d.k<=47000)(t:d.es.length<=98000):ao 26 #[aH p.b,ab a,dG (m+1) x] w λe w'=>∃v,e=.returned (ab v)/\Hid (v=(s.inject p.room a (m+1) x).2/\∃g,bC p (s.inject p.room a (m+1) x).1 g w'/\gG 100 201 d g w w'):=by
 have o:∀f,am w f->gG 100 201 d d w f:=λf c=>(eA.later d c).un.mono (aM _) (aM _);refine BT p.b a x.1.1 x.1.2.1 x.1.2.2 x.2.1.1 x.2.2.length x.2.1.2 (s.get a).isSome (aT (m+1) x) (bJ (m+1) x) w (λv w'=>v=(s.inject p.room a (m+1) x).2/\∃g,bC p (s.inject p.room a (m+1) x).1 g w'/\gG 100 201 d g w w') (λf c=>(j.later c).isAlive a) (λf c=>eq (m+1) x w.heap.size f (l.1.below c) c.size u) (λf c=>jk (m+1) x w.heap.size f (l.1.below c) c.size) (λh i n f c=>?_) λf c=>⟨λe=>?_,λh i=>?_,λh i n=>?_⟩
 ·obtain⟨v,z⟩:=gw.1 h;obtain⟨F,E,D⟩:=v;refine((j.later c).deliver y z x ⟨(l.1.below c).mono c.size,l.2⟩ i A t).mono ?_;rintro e w' ⟨rfl,r⟩;obtain⟨g,B,C⟩:=r;have e:s.inject p.room a (m+1) x=(s.deliver p.room 0 a (cn (m+1) x),0):=by
   unfold Sy.inject;rw[if_neg (by rw[h];decide),if_neg (by rw[i];decide),if_neg (by rw[n];decide)]
  rw[e];exact⟨rfl,rfl,g,B,((eA.later d c).un.trans C).mono (by omega) (by omega)⟩
 ·have e:s.inject p.room a (m+1) x=(s,4):=if_pos e;rw[e];exact⟨rfl,d,j.later c,o f c⟩
 ·have e:s.inject p.room a (m+1) x=(s,bJ (m+1) x):=by
    unfold Sy.inject;rw[if_neg (by rw[h];decide),if_pos i]
  rw[e];exact⟨rfl,d,j.later c,o f c⟩
 ·have e:s.inject p.room a (m+1) x=(s,5):=by
    unfold Sy.inject;rw[if_neg (by rw[h];decide),if_neg (by rw[i];decide),if_pos n]
  rw[e];exact⟨rfl,d,j.later c,o f c⟩
end
section
variable {p:lG} {s:Sy} {d:gE} {w:ag}
theorem bC.takeW(h:bC p s d w){a b:Int}(X:I2 (a,b))(Z:d.wn<999999):ao 50 #[.pointer (some ⟨p.b,4,none⟩),ab a,ab b] w λe w'=> (s.ways (a,b)=[]->e=.returned (.tuple #[.agg #[ab 0,ab 0,af ⟨#[]⟩,ae none 0 0],ab 4])/\am w w')/\ ∀t l,s.ways (a,b)=t::l->∃y:Tc,e=.returned (.tuple #[dG 13 y,ab 0])/\cn 13 y=t/\bJ 13 y=0/\aT 13 y=true/\∃z,bC p {s with ways:=fK s.ways (a,b) l} z w'/\eA 1 d z w w'/\In w'.heap.size w' 13 y/\cD (λq=>¬1<=z.ow q) 13 y:=by
 have n:=h.wy.2.2.1 (a,b);refine(LW (N:=12) h.wy.1 X Z (by have:=h.wy.2.2.2.1 (a,b);omega)).mono ?_;rintro e w' ⟨B,V⟩;refine⟨λA=>B ?_,λt l A=>?_⟩
 ·rw[A]at n;simpa using n
 ·rw[A]at n;obtain⟨y,i,v,P,Q⟩:∃y i,d.f (a,b)=y::i/\cn 13 y=t/\i.map (cn 13)=l:=by
   cases I:d.f (a,b)with
   | nil=>rw[I]at n;simp at n
   | cons y i=>
    rw[I,aV]at n;injection n with ag ah;exact⟨y,i,rfl,ag,ah⟩
  obtain⟨Y,sl,L,m,M⟩:=V y i v;have u:=h.wy.2.1;have r:∀b,d.ow b≠0->d.ow b=d.ow b:=λ_ _=>rfl;have J:∀b,d.ow b≠0->p.lo<=b/\b<w'.heap.size:=λb q=>⟨(h.low b q).1,aW (h.low b q).2 m.size⟩;have x:∀{t:Int},t≠ -1->t≠ -5->∀b,d.ow b=t->¬sG (AY p s d) d.wo d.sl b:=λB W b e g=>by
   rcases u b g with g|g
   ·rw[g,h.own]at e;exact W e.symm
   ·exact B (e.symm.trans g)
  have H:w'.heap[p.b]?=some (.cells (eF p s d) 74):=by
   have:=L.2.1.2;simpa [AY,eF]using this
  have K:∀C,∀g∈d.f C,bJ 13 g=0/\aT 13 g=true/\In w'.heap.size w' 13 g/\cD (λq=>d.ow q=-1/\¬sG (AY p s d) d.wo d.sl q) 13 g:=λC g o=>by
   obtain⟨D,E,F⟩:=h.wy.2.2.2.2 C g o;exact⟨D,E,eJ m (λq ak G=>ak.2 G) F⟩
  obtain⟨y1,y2,ai,aj⟩:=K (a,b) y (by rw[v];simp);obtain⟨R,S⟩:=h.evK m (x (by decide) (by decide)) r;refine⟨y,Y,P,y1,y2,{d with wn:=d.wn+1,f:=fK d.f (a,b) i,sl:=sl},⟨J,H,h.own,⟨h.pgK m (x (by decide) (by decide)) r,h.pg.2⟩,h.pmK m (λq T U g=>?_) r,h.keys,λk c q=>h.psK m (av _) (x (by have:=(h.key q).1;omega) (by have:=(h.key q).1;omega)) r J q,⟨L,λq g=>u q (M q g),λk=>?_,λk=>?_,λk g o=>?_⟩,h.bdK m (x (by decide) (by decide)) r rfl (qV H).2,R,h.evt.1,S⟩,⟨m.mono λq _ g=>?_,λ_ _=>rfl,rfl,fN _,av _,fN _⟩,ai,aj.mono λq g=>by show¬1<=d.ow q;rw[g.1];decide⟩
  ·rcases u q g with g|g
   ·exact U g
   ·rw[T]at g;cases g
  ·by_cases j:k=(a,b)
   ·subst j;show (fK d.f (a,b) i (a,b)).map (cn 13)=fK s.ways (a,b) l (a,b);rw[cE,cE,Q]
   ·show (fK d.f (a,b) i k).map (cn 13)=fK s.ways (a,b) l k;rw[bK _ _ j,bK _ _ j];exact h.wy.2.2.1 k
  ·by_cases j:k=(a,b)
   ·subst j;show (fK d.f (a,b) i (a,b)).length<=20;rw[cE];have:=h.wy.2.2.2.1 (a,b);rw[v]at this;simp at this;omega
   ·show (fK d.f (a,b) i k).length<=20;rw[bK _ _ j];exact h.wy.2.2.2.1 k
  ·have o:g∈fK d.f (a,b) i k:=o;have aa:g∈d.f k:=by
    by_cases j:k=(a,b)
    ·subst j;rw[cE]at o;rw[v];exact bW _ o
    ·rwa [bK _ _ j]at o
   obtain⟨D,E,F,ad⟩:=K k g aa;exact⟨D,E,F,ad.mono λq O=>⟨O.1,λG=>O.2 (M q G)⟩⟩
  ·rcases u q g with g|g
   ·rw[g,h.own];decide
   ·rw[g];decide
end
theorem tD(d:Nat)(a b:Int)(s i:Bool)(w:ag)(p:Int->Int->aq->ar->Nat->Nat->bt)(R:Int->bt)(n:Hid (ao 50 #[.pointer (some ⟨d,4,none⟩),ab a,ab b] w λe w'=>(s=true->e=.returned (.tuple #[.agg #[ab 0,ab 0,af ⟨#[]⟩,ae none 0 0],ab 4])/\Hid (∀W,am w' W->R 4 W))/\(s=false->∃y0 y1 y2 ya yl yc,e=.returned (.tuple #[.agg #[ab y0,ab y1,af y2,ae ya yl yc],ab 0])/\Hid (p y0 y1 y2 ya yl yc w'))))(k:Hid (∀y0 y1 y2 ya yl yc W c,p y0 y1 y2 ya yl yc W->am W c->ao 51 #[aH d,ab b] c λe w'=>e=.returned (.bool i)/\w'=c))(l:Hid (∀y0 y1 y2 ya yl yc W c,p y0 y1 y2 ya yl yc W->am W c->(i=true->ao 52 #[aH d,ab a,ab b,.agg #[ab y0,ab y1,af y2,ae ya yl yc]] c λe w'=>e=.returned (.tuple #[])/\Hid (R 0 w'))/\(i=false->ao 46 #[aH d,af ⟨#[108,111,115,116]⟩,ab a,ab b,.agg #[ab y0,ab y1,af y2,ae ya yl yc]] c λe w'=>e=.returned (.tuple #[])/\Hid (R 0 w')))):ao 25 #[aH d,ab a,ab b] w λe w'=>∃v,e=.returned (ab v)/\Hid (R v w'):=by
 go_enter func25,ntmps25;go_wp2_with fail;refine n.mono ?_;rintro e f ⟨q,r⟩;cases s;rotate_left
 ·obtain⟨rfl,g⟩:=q rfl;clear q r n k l;go_wp2_with fail
  go_ret
  exact⟨4,rfl,g _ (aS _ _)⟩
 obtain⟨y0,y1,y2,ya,yl,yc,rfl,g⟩:=r rfl;clear q r n;have HB:Hid (∀o,am f (f.alloc o)):=λo=>aS _ o;have x:Hid (∀o,(f.alloc o).heap[f.heap.size]?=some o):=λo=>aD f o;go_wp2_with fail;refine(k _ _ _ _ _ _ _ _ g (HB _)).mono ?_;rintro e y ⟨rfl,t⟩;obtain rfl:=t.symm;clear t;have h:=ap (l _ _ _ _ _ _ _ _ g (HB (.cells #[ab y0,ab y1,af y2,ae ya yl yc] 31)));clear k l;cases i
 ·have m:=ap (h.2 rfl);clear h;go_wp2_with fail;refine m.mono ?_;rintro e u ⟨rfl,j⟩;go_wp2_with fail
  go_ret
  exact⟨0,rfl,j⟩
 ·have m:=ap (h.1 rfl);clear h;go_wp2_with fail;refine m.mono ?_;rintro e u ⟨rfl,j⟩;go_wp2_with fail
  go_ret
  exact⟨0,rfl,j⟩
section
variable {p:lG} {s:Sy} {d:gE} {w:ag}
theorem bC.arrive(y:bC p s d w){a b:Int}(z:I2 (a,b))(B:d.wn<999999)(U:d.k<=47000)(S:d.es.length<=97000):ao 25 #[aH p.b,ab a,ab b] w λe w'=>∃v,e=.returned (ab v)/\Hid (v=(s.arrive p.room a b).2/\∃c,bC p (s.arrive p.room a b).1 c w'/\gG 101 201 d c w w'):=by
 cases hw:s.ways (a,b)with
 | nil=>
  have e:s.arrive p.room a b=(s,4):=by unfold Sy.arrive;rw[hw]
  rw[e];refine tD p.b a b true false w (λ_ _ _ _ _ _ _=>False) (λv w'=>v=4/\∃c,bC p s c w'/\gG 101 201 d c w w') ((y.takeW z B).mono λe w' j=>⟨λ_=>⟨(j.1 hw).1,λi g=>?_⟩,(λm=>by cases m)⟩) (λ_ _ _ _ _ _ _ _ m=>m.elim) λ_ _ _ _ _ _ _ _ m=>m.elim;have A:=(j.1 hw).2.trans (g.mono (j.1 hw).2.size);exact⟨rfl,d,y.later A,(eA.later d A).un.mono (aM _) (aM _)⟩
 | cons t l=>
  obtain⟨h,C⟩:∃h,h={s with ways:=fK s.ways (a,b) l}:=⟨_,rfl⟩;have e:s.arrive p.room a b=(if (h.get b).isSome then h.deliver p.room a b t else h.tell j9 a b t,0):=by unfold Sy.arrive;rw[hw,C]
  rw[e];refine tD p.b a b false (h.get b).isSome w (λy0 y1 y2 ya yl yc i=>∃f:Tc,(f.1=(y0,y1,y2)/\f.2.1=(ya,yc)/\f.2.2.length=yl)/\cn 13 f=t/\bJ 13 f=0/\∃c,bC p h c i/\eA 1 d c w i/\In i.heap.size i 13 f/\cD (λj=>¬1<=c.ow j) 13 f) (λv w'=>v=0/\∃c,bC p (if (h.get b).isSome then h.deliver p.room a b t else h.tell j9 a b t) c w'/\gG 101 201 d c w w') ((y.takeW z B).mono λe w' j=>⟨(λm=>by cases m),λ_=>?_⟩) ?_ ?_
  ·obtain⟨f,J,K,L,X,c,M,N,O,P⟩:=j.2 t l hw;exact⟨f.1.1,f.1.2.1,f.1.2.2,f.2.1.1,f.2.2.length,f.2.1.2,J,f,⟨rfl,rfl,rfl⟩,K,L,c,by rw[C];exact M,N,O,P⟩
  ·rintro y0 y1 y2 ya yl yc i F ⟨f,_,_,_,c,o,_⟩ g;exact(o.later g).isAlive b
  ·rintro y0 y1 y2 ya yl yc i F ⟨f,⟨f1,f2,f3⟩,D,kc,c,o,r,E,I⟩ g;obtain⟨⟨Y,Z,aa⟩,⟨ad,ae⟩,af⟩:=f;simp only[eH]at f1 f2;obtain⟨rfl,rfl,rfl⟩:=f1;obtain⟨rfl,rfl⟩:=f2;subst f3;have T:=r.2.2.2.1;have V:=r.2.2.1;refine⟨λq=>?_,λq=>?_⟩
   ·obtain⟨v,H⟩:=gw.1 q;obtain⟨W,R,Q⟩:=v;refine((o.later g).deliver z.2 H _ ⟨(E.below g).mono g.size,I⟩ kc (by omega) (by omega)).mono ?_;rintro G w' ⟨rfl,u⟩;obtain⟨d2,n,x⟩:=u.out;rw[D]at n;rw[if_pos q];exact⟨rfl,rfl,d2,n,((r.un.trans (eA.later c g).un).trans x).mono (by omega) (by omega)⟩
   ·refine((o.later g).tell j9 a b _ _ _ _ _ _ _ (kO ((E.below g).mono g.size) kc) (by omega)).mono ?_;rintro G w' ⟨rfl,u⟩;obtain⟨d2,n,x⟩:=u.up (o.later g);rw[D]at n;rw[if_neg (by rw[q];decide)];exact⟨rfl,rfl,d2,n,((r.un.trans (eA.later c g).un).trans x.un).mono (by omega) (by omega)⟩
end
theorem NK(mb:Nat)(W:ag):(binOp .eql 67 (.map (some mb)) (.map none)).run Tryz.prog W=.ok (.bool false) W:=by kernel_rfl
theorem NJ(W:ag):(binOp .eql 67 (.map none) (.map none)).run Tryz.prog W=.ok (.bool true) W:=by kernel_rfl
theorem IT(b m mb:Nat)(mo:da)(a D c:Int)(w w1 w2:ag)(u:Int->Int->aq->ar->Nat->Nat->bt)(j R:bt)(L:IntKind.i64.wrap (D+1)=c)(M:b<w.heap.size)(C:Hid (ai w b 3 (.map mo)/\w.frozen? ⟨b,3,none⟩=false))(J:(mo=none/\mb=w.heap.size/\w1=(w.setCell ⟨b,3,none⟩ (.map (some mb))).alloc (.map #[] 0))\/(mo=some mb/\w1=w))(n:Hid (ai w1 b 2 (ab D)/\w1.frozen? ⟨b,2,none⟩=false))(x:w2=w1.setCell ⟨b,2,none⟩ (ab c))(i:Hid (∀W,am w2 W->ai W b 2 (ab c)/\ai W b 3 (.map (some mb))))(s:Hid (∀W,am w2 W->∃d,(Instr.mapUpdate 67 (.map (some mb)) (ab c) (AX m)).run Tryz.prog W=.ok () d/\(ai d b 2 (ab c)/\ai d b 3 (.map (some mb)))/\Hid (j d)))(q:Hid (∀W f,j W->am W f->ai f b 2 (ab c)))(F:Hid (∀W f,j W->am W f->ao 34 #[aH m] f λe w'=>∃y0 y1 y2 ya yl yc,e=.returned (.agg #[ab y0,ab y1,af y2,ae ya yl yc])/\Hid (am f w'/\u y0 y1 y2 ya yl yc w')))(G:Hid (∀y0 y1 y2 ya yl yc W,u y0 y1 y2 ya yl yc W->ao 46 #[aH b,af ⟨#[115,112,97,119,110]⟩,ab a,ab c,.agg #[ab y0,ab y1,af y2,ae ya yl yc]] W λe w'=>e=.returned (.tuple #[])/\Hid (R w'/\ai w' b 2 (ab c)))):ao 43 #[aH b,ab a,aH m] w λe w'=>e=.returned (.tuple #[])/\Hid (R w'):=by
 obtain⟨I,f3⟩:=C.out;have K:= @lC Tryz.prog;have l:Hid (am w2 w2.drew):=(aA _ _).drew;have g:Hid (∀W:ag,am W W.drew):=λW=>(aA _ _).drew;go_enter func43,ntmps43;rcases J with⟨rfl,z,h⟩|⟨rfl,h⟩
 case' inl=>
  have A:=NJ;go_upto_region 2 with fail;rw[<-z,<-h];clear z
 case' inr=>
  have A:=NK mb;go_upto_region 2 with fail;rw[<-h]
 all_goals
  clear I f3 h C A K;obtain⟨H,f2⟩:=n.out;go_upto_region 3 with fail;rw[<-x];clear x H f2 n;obtain⟨d2,d3⟩:=i.out _ l;obtain⟨d,B,y,k⟩:=s.out _ l;unfold AX at B;have r:=ap y;have p:=ap (i _ l);clear s i;go_region_held3 (λW=>W.cell? ⟨b,2,none⟩=some (ab c)/\W.cell? ⟨b,3,none⟩=some (.map (some mb))) (first|exact p|exact r) (fail);clear B p y d2 d3;have d2:=r.1;go_upto_region 4 with fail
  go_region_held3 (λW=>W.cell? ⟨b,2,none⟩=some (ab c)) (first|exact q _ _ k (g _)|exact q _ _ k E|exact o.2) ((first
   | (go_at_call 34;refine(F _ _ k (g _)).mono ?_;rintro e N ⟨y0,y1,y2,ya,yl,yc,rfl,t⟩;have E:=ap ((g d).trans (t.1.mono (g d).size)))
   | (go_at_call 46;refine(G _ _ _ _ _ _ _ t.2).mono ?_;rintro e O ⟨rfl,o⟩)))
  go_wp2_with fail;exact dL (v:=.tuple #[]) (by simp[results]) rfl ⟨rfl,o.1⟩
section
variable {p:lG} {s:Sy} {d:gE} {w:ag}
def OV(M:aO)(a:Nat)(d b:gE)(w w':ag):Prop:=bE (λq=>d.ow q<0) w w'/\(∀q,q<w.heap.size->¬M q->b.ow q=d.ow q)/\(∀q,M q->1<=b.ow q)/\b.k=d.k/\b.es.length<=d.es.length+a/\b.wn<=d.wn+a/\b.bn<=d.bn+a
theorem pn{b:Type}(l:List (Int×b))(k j:Int)(v:b)(c:∀q∈l,q.1≠k):((l++ [(k,v)]).find? λq=>q.1==j)=if j=k then some (k,v)else l.find? λq=>q.1==j:=by
 rw[List.find?_append];by_cases a:j=k
 ·subst a;rw[if_pos rfl,lj.2 λq d=>by simpa using c q d];simp
 ·rw[if_neg a];have:(k==j)=false:=by simpa using λe:k=j=>a e.symm
  simp[this]
def Pl(d:gE)(M:aO)[DecidablePred M](mb:Nat)(k:Int)(q:Nat):Int:=if M q then k else if q=mb then -5 else d.ow q
theorem bC.addG(c:bC p s d w){j mb:Nat}{nm:aq}{cs:Tc}{M:aO}[DecidablePred M](B:P1 p.lo j nm p.room cs [] (d.k+201) M w)(A:∀q,M q->d.ow q=0)(aa:s.ps.length<12/\s.last<90){w':ag}(e:bE (λq=>d.ow q=-5) w w')(P:d.ow mb≠0->d.ow mb=-5)(N:¬M mb)(O:p.lo<=mb/\mb<w'.heap.size)(Q:mb≠p.b)(n:w'.heap[p.b]?=some (.cells (eF p {s with last:=s.last+1} {d with po:=some mb}) 74))(L:IM w' mb (d.l++ [(s.last+1,j)])):bC p {s with last:=s.last+1,ps:=s.ps++ [(s.last+1,nm,cs,[])]} {d with ow:=Pl d M mb (s.last+1),po:=some mb,l:=d.l++ [(s.last+1,j)]} w':=by
 obtain⟨y,J,z,X,Y,Z⟩:=c.keys;have h:∀b,d.ow b≠0->Pl d M mb (s.last+1) b=d.ow b:=λb g=>by
  unfold Pl;rw[if_neg λa=>g (A b a)];by_cases f:b=mb
  ·subst f;rw[if_pos rfl,P g]
  ·rw[if_neg f]
 have o:∀b,Pl d M mb (s.last+1) b≠0->p.lo<=b/\b<w'.heap.size:=λb g=>by
  unfold Pl at g;split at g
  ·rename_i a;have:=P1.lie2 B b a;exact⟨this.1,aW this.2 e.size⟩
  ·split at g
   ·rename_i a;subst a;exact O
   ·exact⟨(c.low b g).1,aW (c.low b g).2 e.size⟩
 have t:∀{t:Int},t≠ -5->∀b,d.ow b=t->¬d.ow b=-5:=λT b f a=>T (f.symm.trans a);have m:∀q∈s.ps,q.1≠s.last+1:=λq i=>by have:=(z q i).2;omega
 have R:∀q∈d.l,q.1≠s.last+1:=λq i=>by
  have K:q.1∈s.ps.map (·.1):=by rw[<-y];exact cu.2 ⟨q,i,rfl⟩
  obtain⟨u,r,f⟩:=cu.1 K;rw[<-f];exact m u r
 obtain⟨y1,y2,W⟩:=c.wyK e (t (by decide)) h (q:=AY p {s with last:=s.last+1} {d with po:=some mb}) rfl (qV n).1;obtain⟨H,I⟩:=c.evK e (t (by decide)) h;refine⟨o,n,(h p.b (by rw[c.own];decide)).trans c.own,⟨c.pgK e (t (by decide)) h,c.pg.2⟩,ak ⟨mb,rfl,(if_neg N).trans (if_pos rfl),Q,L⟩,⟨by simp[y],?_,λq i=>?_,by show 0<=s.last+1;omega,by show s.last+1<=90;omega,by simp;omega⟩,λk b q=>?_,⟨y1,y2,c.wy.2.2.1,c.wy.2.2.2.1,W⟩,c.bdK e (t (by decide)) h rfl (qV n).2,H,c.evt.1,I⟩
 ·simp only[gV,aV,cF];refine fM.2 ⟨J,by simp,λx U ab V=>?_⟩;obtain⟨u,r,rfl⟩:=cu.1 U;rw[dC.1 V];exact m u r
 ·show 1<=q.1/\q.1<=s.last+1;rcases de.1 i with a|a
  ·have:=z q a;omega
  ·rw[dC.1 a];show 1<=s.last+1/\s.last+1<=s.last+1;omega
 ·have q:dl (d.l++ [(s.last+1,j)]) k=some b:=q;unfold dl at q;rw[pn _ _ _ _ R]at q;by_cases f:k=s.last+1
  ·subst f;rw[if_pos rfl]at q;obtain rfl:j=b:=by simpa using q
   refine⟨nm,cs,[],?_,(B.kept (S:=λq=>d.ow q=-5) ⟨e.os,e.tape,e.output,e.size,e.block⟩ λb a=>by rw[A b a];decide).mono (λb a=>if_pos a) (av _) λb a=>o b (by have a:Pl d M mb (s.last+1) b=s.last+1:=a;rw[a];omega),aM _⟩;unfold Sy.get;simp only;rw[pn _ _ _ _ m,if_pos rfl];rfl
  ·rw[if_neg f]at q;have C:dl d.l k=some b:=q;have:=(c.key C).1;obtain⟨D,E,F,v,G⟩:=c.psK e (av _) (t (by omega)) h o C;refine⟨D,E,F,?_,G⟩;unfold Sy.get at v ⊢;simp only;rw[pn _ _ _ _ m,if_neg f];exact v
open Classical in
theorem bC.add(m:bC p s d w)(a:Int){x:Nat}{nm:aq}{cs:Tc}{M:aO}(G:P1 p.lo x nm p.room cs [] (d.k+201) M w)(U:∀q,M q->d.ow q=0)(aT:s.ps.length<12/\s.last<90)(Z:d.k<=47000)(bb:d.es.length<=99000):ao 43 #[aH p.b,ab a,aH x] w λe w'=>e=.returned (.tuple #[])/\Hid (∃A,bC p (s.add a nm cs) A w'/\OV M 1 d A w w'):=by
 obtain⟨aQ,af⟩:=m.lo;have K:=m.box;obtain⟨a6,a7,a8,ax⟩:=m.cells;obtain⟨_,_,aB,a9,ba,_⟩:=m.keys;have Y:∀{g:ag}{cs:Array au}{o:Nat},g.heap[p.b]?=some (.cells cs 74)->g.frozen? ⟨p.b,o,none⟩=false:=λe=>by simp[World.frozen?,e]
 obtain⟨mb,j,aU,H,aC,aL,L,aF,N,ae⟩:∃mb j,((d.po=none/\mb=w.heap.size/\j=(w.setCell ⟨p.b,3,none⟩ (.map (some mb))).alloc (.map #[] 0))\/(d.po=some mb/\j=w))/\j.heap[p.b]?=some (.cells (eF p s {d with po:=some mb}) 74)/\IM j mb d.l/\bE (λq=>d.ow q=-5) w j/\(mb<w.heap.size->d.ow mb=-5)/\¬M mb/\mb≠p.b/\p.lo<=mb/\mb<j.heap.size:=by
  rcases m.pm with⟨y,r⟩|⟨mb,y,r,F,aA⟩
  ·have aJ:(w.setCell ⟨p.b,3,none⟩ (.map (some w.heap.size))).heap[p.b]?=some (.cells (eF p s {d with po:=some w.heap.size}) 74):=by
     simp[World.setCell,bT,K,eF]
   have P:(w.setCell ⟨p.b,3,none⟩ (.map (some w.heap.size))).heap.size=w.heap.size:=by simp[World.setCell]
   have Z:bE (λq=>d.ow q=-5) w ((w.setCell ⟨p.b,3,none⟩ (.map (some w.heap.size))).alloc (.map #[] 0)):=((bN w p.b 3 _).mono λq _ e=>by rw[e];exact m.own).trans (aR (aS _ _) λ_=>False) λ_ _ e=>e.elim;refine⟨w.heap.size,_,aj ⟨y,rfl,rfl⟩,(heap_alloc_old _ _ (by rw[P];exact af)).trans aJ,?_,Z,λc=>by omega,λc=>?_,by omega,aQ,?_⟩
   ·rw[r];have:=xk.new (f:=AX) (w.setCell ⟨p.b,3,none⟩ (.map (some w.heap.size)));rw[P]at this;exact this
   ·have:=(P1.lie2 G _ c).2;omega
   ·have:=aD (w.setCell ⟨p.b,3,none⟩ (.map (some w.heap.size))) (.map #[] 0);rw[P]at this;exact(aI.1 this).1
  ·refine⟨mb,w,ak ⟨y,rfl⟩,?_,aA,bE.refl _ _,λ_=>r,λc=>?_,F,m.low mb (by rw[r];decide)⟩
   ·rw[K];unfold eF;rw[y]
   ·have:=U mb c;rw[r]at this;cases this
 obtain⟨v,D⟩:∃v,v=j.setCell ⟨p.b,2,none⟩ (ab (s.last+1)):=⟨_,rfl⟩;have I:v.heap[p.b]?=some (.cells (eF p {s with last:=s.last+1} {d with po:=some mb}) 74):=by
  rw[D];simp[World.setCell,bT,H,eF]
 have be:v.heap.size=j.heap.size:=by rw[D];simp[World.setCell]
 have aa:bE (λq=>q=p.b) j v:=by rw[D];exact bN j p.b 2 _
 have aM:bE (λq=>d.ow q=-5) w v:=aL.trans aa λq _ e=>by rw[e];exact m.own
 have aE:IM v mb d.l:=aC.kept (aa.block mb ae.2 N);obtain⟨z,C⟩:∃z:Sy,z={s with last:=s.last+1,ps:=s.ps++ [(s.last+1,nm,cs,[])]}:=⟨_,rfl⟩;obtain⟨d3,t⟩:∃d3:gE,d3={d with ow:=Pl d M mb (s.last+1),po:=some mb,l:=d.l++ [(s.last+1,x)]}:=⟨_,rfl⟩;have O:dl d.l (s.last+1)=none:=by
  cases e:dl d.l (s.last+1)with
  | none=>rfl
  | some b=>have:=(m.key e).2;omega
 have aK:dl d3.l (s.last+1)=some x:=by
  rw[t];show dl (d.l++ [(s.last+1,x)]) (s.last+1)=_;unfold dl at O ⊢;rw[List.find?_append,Option.map_eq_none_iff.1 O];simp
 have aP:z.last=s.last+1:=by rw[C]
 refine IT p.b x mb d.po a s.last (s.last+1) w j v (λy0 y1 y2 ya yl yc g=>∃h:Tc,(h.1=(y0,y1,y2)/\h.2.1=(ya,yc)/\h.2.2.length=yl)/\In g.heap.size g 13 h/\bJ 13 h=0/\cn 13 h=cs/\bC p z d3 g/\bE (λq=>d.ow q=-5) w g) (λg=>bC p z d3 g/\bE (λq=>d.ow q=-5) w g) (λw'=>∃A,bC p (s.add a nm cs) A w'/\OV M 1 d A w w') (by rw[IntKind.wrap];simp[IntKind.bits,IntKind.signed];omega) af ⟨ax,Y K⟩ aU ⟨ah H 2,Y H⟩ D (λg i=>?_) (λg i=>?_) (λg aw B i=>?_) (λg aw B i=>?_) (λy0 y1 y2 ya yl yc g aG=>?_)
 ·have W:=dv i I;exact⟨ah W 2,ah W 3⟩
 ·obtain⟨R,a0,a1,am,bg⟩:=(xk.put (aE.kept (i.block mb (by omega))) underlying67 O x);have J:R.heap[p.b]?=_:=(am.block p.b (aW (aI.1 I).1 i.size) N.symm).trans (dv i I);have ad:bE (λq=>d.ow q=-5) w R:=by
   have aN:bE (λq=>d.ow q=-5) w g:=aM.trans (aR i λ_=>False) λ_ _ e=>e.elim;exact aN.trans am λq n e=>by rw[e]at n ⊢;exact L n
  refine⟨R,a0,⟨ah J 2,ah J 3⟩,?_,ad⟩;rw[C,t];exact m.addG G U aT ad (λc=>L (m.low _ c).2) aF ⟨ae.1,by have:=i.size;omega⟩ N J a1
 ·have:=(B.1.later i).cells.2.2.1;rw[aP]at this;exact this
 ·have V:=B.1.later i;obtain⟨aZ,az,ay,u,Q,bf⟩:=V.ps _ _ aK;have e:z.get (s.last+1)=some (nm,cs,[]):=by
   rw[C];unfold Sy.get;simp only;rw[pn _ _ _ _ λq n=>by have:=(aB q n).2;omega,if_pos rfl];rfl
  rw[e]at u;obtain⟨rfl,rfl,rfl⟩:nm=aZ/\cs=az/\[]=ay:=by
   injection u with u;injection u with y r;injection r with r F;exact⟨y,r,F⟩
  have bd:d3.k=d.k:=by rw[t]
  refine(Q.state (by omega)).mono ?_;rintro e w' ⟨h,rfl,E⟩;obtain⟨y1,y2,bh,a4,a5⟩:=E.out;exact⟨h.1.1,h.1.2.1,h.1.2.2,h.2.1.1,h.2.2.length,h.2.1.2,rfl,y1,h,⟨rfl,rfl,rfl⟩,y2,a4,a5,V.later y1,(B.2.trans (aR i λ_=>False) λ_ _ e=>e.elim).trans (aR y1 λ_=>False) λ_ _ e=>e.elim⟩
 ·obtain⟨h,⟨f1,f2,f3⟩,aV,aX,aY,ai,al⟩:=aG;obtain⟨⟨bi,bj,bk⟩,⟨bl,bm⟩,bn⟩:=h;simp only[eH]at f1 f2;obtain⟨rfl,rfl,rfl⟩:=f1;obtain⟨rfl,rfl⟩:=f2;subst f3;have X:d3.es=d.es:=by rw[t]
  refine(ai.tell zS a (s.last+1) _ _ _ _ _ _ _ (kO aV aX) (by rw[X];omega)).mono ?_;rintro e w' ⟨rfl,E⟩;obtain⟨d4,u,Q⟩:=E.up ai;rw[aY,C]at u;refine⟨rfl,⟨d4,u,?_⟩,?_⟩
  ·obtain⟨a2,an,a3,ap,ar,av⟩:=Q;have S:∀q,q<w.heap.size->¬M q->d3.ow q=d.ow q:=λq n c=>by
    rw[t];refine(if_neg c).trans ?_;by_cases e:q=mb
    ·rw[if_pos e,e];exact(L (e▸n)).symm
    ·exact if_neg e
   have T:∀q,M q->d3.ow q=s.last+1:=λq c=>by
    rw[t];exact if_pos c
   have bc:=al.size;refine⟨(al.mono λq _ e=>by rw[e];decide).trans a2 λq n e=>?_,λq n c=>(an q (by omega)).trans (S q n c),λq c=>?_,by rw[a3,t],by rw[X]at ap;exact ap,by rw[t]at ar;exact ar,by rw[t]at av;exact av⟩
   ·by_cases c:M q
    ·rw[T q c]at e;omega
    ·rw[S q n c]at e;exact e
   ·have:=(P1.lie2 G q c).2;rw[an q (by omega),T q c];omega
  ·have:=u.cells.2.2.1;exact this
end
theorem E5(c:Nat)(nm:aq)(f g:Int)(h:aq)(xa:ar)(i xc:Nat)(room ne t:Int)(may o:Bool)(w:ag)(C:Nat->bt)(R:Int->Int->bt)(ak:c<w.heap.size)(T:Hid (ai w c 1 (ab room)))(J:Hid (∀W,am w W->ao 40 #[aH c,ab 1] W λe w'=>e=.returned (.bool may)/\w'=W))(z:Hid (∀W,am w W->ao 41 #[aH c,af nm] W λe w'=>e=.returned (.bool o)/\am W w'))(r:Hid (∀W,am w W->ao 42 #[af nm,.agg #[ab f,ab g,af h,ae xa i xc],ab room] W λe w'=>∃p:ar,e=.returned (.tuple #[.pointer p,ab ne])/\Hid (am W w'/\(ne=0->∃b,p=some ⟨b,0,none⟩/\C b w'))))(l:Hid (∀b W,(may && o)=true->ne=0->C b W->ao 43 #[aH c,ab 0,aH b] W λe w'=>e=.returned (.tuple #[])/\Hid (R t 0 w'/\ai w' c 2 (ab t))))(j:Hid (∀W,am w W->(may=false->R 0 2 W)/\((may && !o)=true->R 0 4 W)/\((may && o)=true->ne≠0->R 0 ne W))):ao 20 #[aH c,af nm,.agg #[ab f,ab g,af h,ae xa i xc]] w λe w'=>∃v Q,e=.returned (.tuple #[ab v,ab Q])/\Hid (R v Q w'):=by
 go_enter func20,ntmps20;go_upto_region 1 with fail;generalize O:w.alloc _=G;have u:Hid (am w G/\G.heap[w.heap.size]?=some (.cells #[ab f,ab g,af h,ae xa i xc] 31)):=by
  rw[<-O];exact⟨aS _ _,aD _ _⟩
 clear O;obtain⟨a,E⟩:∃a,a=w.heap.size:=⟨_,rfl⟩;rw[<-E];have K:Hid (G.heap[a]?=some (.cells #[ab f,ab g,af h,ae xa i xc] 31)):=by rw[E];exact u.2
 have HB:=ap u.1;clear E u;go_wp2_with fail;refine(J _ HB).mono ?_;rintro e av ⟨rfl,P⟩;obtain rfl:=P.symm;clear P J;cases may
 ·have d:=ap ((j _ HB).1 rfl);clear l j r z;go_wp2_with fail;exact ay (v:=.tuple #[ab 0,ab 2]) (by simp[results,results20,go_sem]) rfl ⟨0,2,rfl,d⟩
 go_wp2_with fail;refine(z _ HB).mono ?_;rintro e H ⟨rfl,D⟩;have m:=ap (HB.trans (D.mono HB.size));have A:=ap (dv D K);clear z K HB D;cases o
 ·have d:=ap ((j _ m).2.1 rfl);clear l j r;go_wp2_with fail;exact ay (v:=.tuple #[ab 0,ab 4]) (by simp[results,results20,go_sem]) rfl ⟨0,4,rfl,d⟩
 have y:Hid (am H H.drew):=(aA _ _).drew;have n:=ap (m.trans (y.mono m.size));have B:=ap (dv y A);have q:Hid (∀W:ag,am w W->W.heap[a]?=some (.cells #[ab f,ab g,af h,ae xa i xc] 31)->ai W c 1 (ab room)/\ai W a 0 (ab f)/\ai W a 1 (ab g)/\ai W a 2 (af h)/\ai W a 3 (ae xa i xc)):=λW aj s=>⟨(aj.cell (p:=⟨c,1,none⟩) ak).trans T,ah s 0,ah s 1,ah s 2,ah s 3⟩;obtain⟨Z,V,X,N,Y⟩:=q.out H m A;go_upto_region 5 with fail
 go_region_held3 (λW=>W.cell? ⟨c,1,none⟩=some (ab room)/\W.cell? ⟨a,0,none⟩=some (ab f)/\W.cell? ⟨a,1,none⟩=some (ab g)/\W.cell? ⟨a,2,none⟩=some (af h)/\W.cell? ⟨a,3,none⟩=some (ae xa i xc))
  (first|exact q _ n B|exact q _ x L) ((first
   | (go_at_call 42;refine(r _ n).mono ?_;rintro e an ⟨al,rfl,k⟩;have L:=ap (dv k.1 B);have x:=ap (n.trans (k.1.mono n.size)))))
 have d:=ap (j _ x);clear Z V X N Y q B n y A m j r L x;by_cases F:ne=0
 ·subst F;obtain⟨b,rfl,M⟩:∃b,al=some ⟨b,0,none⟩/\Hid (C b an):=by
   obtain⟨b,aa,ad⟩:=k.out.2 rfl;exact⟨b,aa,ad⟩
  have S:=ap (l _ _ rfl rfl M);clear l M k d;go_wp2_with fail;refine S.mono ?_;rintro e aw ⟨rfl,I⟩;have N:=I.2;go_wp2_with fail;exact ay (v:=.tuple #[ab t,ab 0]) (by simp[results,results20,go_sem]) rfl ⟨t,0,rfl,I.1⟩
 ·have U:=ap (d.2.2 rfl F);have au:(ne==0)=false:=by simpa using F
  clear l k d;go_wp2_with fail;exact ay (v:=.tuple #[ab 0,ab ne]) (by simp[results,results20,go_sem]) rfl ⟨0,ne,rfl,U⟩
section
variable {p:lG} {s:Sy} {d:gE} {w:ag}
theorem KZ{n:Nat}(a:s.may n=true):s.ps.length+n<=12/\s.last+n<=90:=by
 unfold Sy.may at a;simp only[aK,cw]at a;omega
theorem bC.start(j:bC p s d w)(nm:aq)(O:nm.size<=9223372036854775807){m:Nat}(x:Tm (m+1))(P:In w.heap.size w (m+1) x)(K:(aC (m+1) x).length<=2097152)(M:d.k<=47000)(J:d.es.length<=99000):ao 20 #[aH p.b,af nm,dG (m+1) x] w λe w'=>∃v r,e=.returned (.tuple #[ab v,ab r])/\Hid ((r=(s.start p.n p.prog p.room nm (m+1) x).2/\(r=0->v=s.last+1))/\∃i,bC p (s.start p.n p.prog p.room nm (m+1) x).1 i w'/\gG 1 0 d i w w'):=by
 obtain⟨q,f⟩:∃q,q=s.start p.n p.prog p.room nm (m+1) x:=⟨_,rfl⟩;rw[<-f];unfold Sy.start at f;have B:∀a,am w a->q.1=s->∃i,bC p q.1 i a/\gG 1 0 d i w a:=λa c e=>⟨d,by rw[e];exact j.later c,(eA.later d c).un.mono (aM _) (av _)⟩;refine E5 p.b nm x.1.1 x.1.2.1 x.1.2.2 x.2.1.1 x.2.2.length x.2.1.2 p.room (gD (m+1) x p.room nm) (s.last+1) (s.may 1) (lQ p.n p.prog nm) w (λy a=>∃u,am w u/\am u a/\P1 p.lo y nm p.room (cn (m+1) x) [] (d.k+201) (λb=>u.heap.size<=b/\b<a.heap.size) a) (λv r w'=>(r=q.2/\(r=0->v=s.last+1))/\∃i,bC p q.1 i w'/\gG 1 0 d i w w') j.lo.2 j.cells.2.1 (λa c=>(j.later c).mayHave 1 (by decide)) (λa c=>(j.later c).knows nm) (λa c=>?_) (λy a l t L=>?_) λa c=>⟨λe=>?_,λe=>?_,λe t=>?_⟩
 ·refine(P1.new m x p.room nm a O ((P.below c).mono c.size) K).mono ?_;rintro e w' ⟨g,rfl,z⟩;obtain⟨o,E,C⟩:=z.out;refine⟨g,rfl,o,λe=>?_⟩;obtain⟨y,l,t,V,G⟩:=C e;have:=j.lo.1;have:=c.size;exact⟨y,l,a,c,o,G.mono (λb h=>h) (by omega) λb h=>⟨by omega,h.2⟩⟩
 ·simp only[aK]at l;rw[if_neg (by rw[l.1];decide),if_neg (by rw[l.2];decide),if_neg (by rw[t];decide)]at f;obtain⟨u,o,E,C⟩:=L;have A:=o.trans (E.mono o.size);have I:=j.later A;have Z:=o.size;have W:=KZ l.1;refine(I.add 0 C (λg h=>?_) (by omega) M J).mono ?_
  ·have:=j.low g;by_cases F:d.ow g=0
   ·exact F
   ·have:=(this F).2;omega
  ·rintro e w' ⟨rfl,z⟩;obtain⟨i,D,H⟩:=z;refine⟨rfl,⟨⟨by rw[f],λ_=>rfl⟩,i,by rw[f];exact D,?_⟩,D.cells.2.2.1⟩;obtain⟨Q,R,aa,S,U⟩:=H;have N:bE (λg=>d.ow g≠0) w a:=aR A _;have Y:=A.size;exact⟨N.trans (Q.mono (T:=λg=>d.ow g≠0) λg _ e=>by omega) λg _ e=>e,λg X=>R g (by omega) λh=>by omega,dT S,U⟩
 ·rw[if_pos e]at f;exact⟨⟨by rw[f],(λh=>by cases h)⟩,B a c (by rw[f])⟩
 ·simp only[aK,ld]at e;rw[if_neg (by rw[e.1];decide),if_pos e.2]at f;exact⟨⟨by rw[f],(λh=>by cases h)⟩,B a c (by rw[f])⟩
 ·simp only[aK]at e;rw[if_neg (by rw[e.1];decide),if_neg (by rw[e.2];decide),if_pos t]at f;exact⟨⟨by rw[f],λh=>absurd h t⟩,B a c (by rw[f])⟩
end
theorem Pe:(Tryz.prog.info? 65).map (λi=>(i.zero,i.size,i.bytes))=some (some (.pointer none),1,8):=by kernel_rfl
theorem Ie(m:Nat)(pa:ar)(pl pc:Nat)(may:Bool)(room:Int)(w:ag)(az u x:Nat->Int)(nm y:Nat->aq)(xa:Nat->ar)(z xc:Nat->Nat)(l:Nat->Bool)(ne:Nat->Int)(r:Nat->List Nat->au->bt)(N:Nat->Nat->List Nat->au->bt)(R:au->Bool->bt)(bL:pl<=1000)(bF:m<w.heap.size)(aV:Hid (ai w m 1 (ab room)))(V:Hid (∀j,j<pl->∃g,pa=some ⟨g,0,none⟩/\g<w.heap.size/\Hid (ai w g (j*6) (ab (az j))/\ai w g (j*6+1) (af (nm j))/\ai w g (j*6+2) (ab (u j))/\ai w g (j*6+3) (ab (x j))/\ai w g (j*6+4) (af (y j))/\ai w g (j*6+5) (ae (xa j) (z j) (xc j)))))(aY:Hid (ao 40 #[aH m,ab pl] w λe w'=>e=.returned (.bool may)/\w'=w))(Y:Hid (∀j W,j<pl->am w W->ao 41 #[aH m,af (nm j)] W λe w'=>e=.returned (.bool (l j))/\am W w'))(Z:Hid (∀j d v W,j<pl->l j=true->am w W->r j d v W->ao 42 #[af (nm j),.agg #[ab (u j),ab (x j),af (y j),ae (xa j) (z j) (xc j)],ab room] W λe w'=>∃p:ar,e=.returned (.tuple #[.pointer p,ab (ne j)])/\Hid (am W w'/\(ne j=0->∃k,p=some ⟨k,0,none⟩/\N j k d v w'))))(an:Hid (r 0 [] (ae none 0 0) w))(q:Hid (∀j d v W D,r j d v W->am W D->r j d v D))(M:Hid (∀j k d a c g br W aK D,j<pl->N j k d (ae a j c) W->am W aK->aK.grownBy D (Value.slice a j c).ownBlock->((Value.slice a j c).ownBlock=some g\/g=aK.heap.size)->g<D.heap.size->r (j+1) (d++ [k]) (ae (some ⟨g,0,none⟩) (j+1) br) D))(K:Hid (∀W,am w W->(may=false\/∃j,j<pl/\(l j=false\/ne j≠0))->R (ae none 0 0) false W))(ad:Hid (∀W d a c,am w W->may=true->(∀j,j<pl->l j=true/\ne j=0)->d.length=pl->W.ownsRow w.heap.size 65 1 (ae a pl c) pl (d.map AX)->r pl d (ae a pl c) W->R (ae a pl c) true W)):ao 47 #[aH m,ae pa pl pc] w λe w'=>∃v b,e=.returned (.tuple #[v,.bool b])/\Hid (R v b w'):=by
 obtain⟨bG,bd,bg,bh,bi⟩:=bY Pe;have X:=ap (⟨bd,bg,bh,bi⟩:_/\_/\_/\_);clear bd bg bh bi;go_enter func47,ntmps47;go_wp2_with fail;refine aY.mono ?_;rintro e bP ⟨rfl,bj⟩;obtain rfl:=bj.symm;clear bj aY;cases may
 ·have n:=ap (K _ (aA _ _) (aj rfl));clear K ad M an q Z Y V;go_wp2_with fail;exact ay (v:=.tuple #[ae none 0 0,.bool false]) (by simp[results,results47,go_sem]) rfl ⟨_,_,rfl,n⟩
 go_wp2_with fail;go_loopw [6,18] (λo i wr=>∃(j:Nat)(a:ar)(c:Nat),j<=pl/\i=ab j/\o=ae a j c/\Hid (∃d,d.length=j/\wr.ownsRow w.heap.size 65 1 (ae a j c) j (d.map AX)/\r j d (ae a j c) wr/\am w wr/\∀i,i<j->l i=true/\ne i=0)) (λ_ i _=>pl-(intOf i).toNat)
 case atStart=>exact⟨0,none,0,aM _,rfl,rfl,[],rfl,eZ _ _ _ _,an,aA _ _,λi h=>by omega⟩
 case round=>
 obtain⟨j,a,c,bK,rfl,rfl,aa⟩:=hrel;by_cases Q:j<pl
 ·obtain⟨g,rfl,bE,aW⟩:=V.out j Q;obtain⟨d,P,S,U,E,T⟩:=aa.out;have a3:=ap S;have a7:=ap U;have HB:=ap E;have a2:=ap T;have bD:=ap P;have s:∀{f:Nat}{v:au},ai w g f v->ai wr g f v:=λ{f v} h=>(E.cell (p:=⟨g,f,none⟩) bE).trans h;obtain⟨a8,aw,ax,a9,ba,bb⟩:=aW.out;have f0:=s a8;have f1:=s aw;have f2:=s ax;have f3:=s a9;have f4:=s ba;have f5:=s bb;have bN:(0:Int)<=(j:Int):=by omega
  have bO:(j:Int)<(pl:Int):=by omega
  clear s a8 aw ax a9 ba bb aW V S U E T P aa;go_upto_region 7 with fail;generalize bk:wr.alloc _=aB;have F:Hid (am wr aB/\aB.heap[wr.heap.size]?=some (.cells #[ab (az j),af (nm j),ab (u j),ab (x j),af (y j),ae (xa j) (z j) (xc j)] 174)):=by
   rw[<-bk];exact⟨aS _ _,aD _ _⟩
  clear bk f0 f1 f2 f3 f4 f5;obtain⟨f,aP⟩:∃f,f=wr.heap.size:=⟨_,rfl⟩;rw[<-aP];have aG:Hid (aB.heap[f]?=some (.cells #[ab (az j),af (nm j),ab (u j),ab (x j),af (y j),ae (xa j) (z j) (xc j)] 174)):=by rw[aP];exact F.2
  have G:=ap (HB.trans (F.1.mono HB.size));have a5:=ap (q _ _ _ _ _ a7 F.1);have aZ:=ap (bB a3 (aR F.1 λ_=>False) λ_ _ h=>h);clear aP F a3 a7 HB;have C:Hid (∀W:ag,am w W->W.heap[f]?=some (.cells #[ab (az j),af (nm j),ab (u j),ab (x j),af (y j),ae (xa j) (z j) (xc j)] 174)->ai W m 1 (ab room)/\ai W f 1 (af (nm j))/\ai W f 2 (ab (u j))/\ai W f 3 (ab (x j))/\ai W f 4 (af (y j))/\ai W f 5 (ae (xa j) (z j) (xc j))):=λW aN h=>⟨(aN.cell (p:=⟨m,1,none⟩) bF).trans aV,ah h 1,ah h 2,ah h 3,ah h 4,ah h 5⟩;have aL:=(C aB G aG).2.1;have aX:=ap (λW=>Y j W Q);have aC:=ap (λd v W=>Z j d v W Q);have L:=ap (λW aN e=>K W aN (ak ⟨j,Q,e⟩));have aF:Hid (l j=true->ne j=0->∀i,i<j+1->l i=true/\ne i=0):=λbA bC i bJ=>by
   by_cases e:i=j
   ·subst e;exact⟨bA,bC⟩
   ·exact a2 i (by omega)
  clear Y Z K ad aV a2 an;generalize l j=bH at*;generalize ne j=bl at*;go_wp2_with fail;refine(aX _ G).mono ?_;rintro e aT ⟨rfl,O⟩;have B:=ap (G.trans (O.mono G.size));have al:=ap (dv O aG);have aJ:=ap (q _ _ _ _ _ a5 O);have aE:=ap (bB aZ (aR O λ_=>False) λ_ _ h=>h);clear aX G aG a5 aZ O aL;cases bH
  ·have n:=ap (L _ B (aj rfl));clear L aC C aJ aE al B M q aF;go_wp2_with fail;exact ay (v:=.tuple #[ae none 0 0,.bool false]) (by simp[results,results47,go_sem]) rfl ⟨_,_,rfl,n⟩
  have J:Hid (am aT aT.drew):=(aA _ _).drew;have I:=ap (B.trans (J.mono B.size));have aI:=ap (dv J al);have a6:=ap (q _ _ _ _ _ aJ J);have a1:=ap (bB aE (aR J λ_=>False) λ_ _ h=>h);obtain⟨bw,aL,bs,bu,bv,av⟩:=C.out aT B al;clear aE aJ;go_upto_region 9 with fail
  go_region_held3 (λW=>W.cell? ⟨m,1,none⟩=some (ab room)/\W.cell? ⟨f,1,none⟩=some (af (nm j))/\W.cell? ⟨f,2,none⟩=some (ab (u j))/\W.cell? ⟨f,3,none⟩=some (ab (x j))/\W.cell? ⟨f,4,none⟩=some (af (y j))/\W.cell? ⟨f,5,none⟩=some (ae (xa j) (z j) (xc j)))
   (first|exact C _ I aI|exact C _ H a4) ((first
    | (go_at_call 42;refine(aC _ _ _ (by first|rfl|trivial) I a6).mono ?_;rintro e aU ⟨bI,rfl,A⟩;have a4:=ap (dv A.1 aI);have H:=ap (I.trans (A.1.mono I.size));have a0:=ap (bB a1 (aR A.1 λ_=>False) λ_ _ h=>h))))
  clear bw aL bs bu bv av C aI I J al B aC a4 a6 a1;by_cases aQ:bl=0
  ·subst aQ;obtain⟨k,rfl,bp⟩:∃k,bI=some ⟨k,0,none⟩/\Hid (N j k d (ae a j c) aU):=by
    obtain⟨k,aw,ax⟩:=A.out.2 rfl;exact⟨k,aw,ax⟩
   have bo:=ap H.size;clear L A
   go_wp2_with (first
    | (at_builtin;refine wpList_append_lies _ rfl _ _ 121 rfl w.heap.size 65 bG _ 1 8 underlying121 X.1 X.2.1 X.2.2.1 X.2.2.2 rfl (by decide) (ae a j c) j (d.map AX) rfl (a0.alloc _) ⟨aU.heap.size,0,none⟩ 1 1 [aH k] rfl rfl (World.news_of_block (cs:= #[aH k]) (t:=65) (fr:=(0,0)) (aD aU _)) (by simp[Value.oneCell']) (by decide) (by unfold maxLen;omega) (by omega) (by have:=bo.out;simp;omega) _ rfl ?_;intro bx av bQ bf aO bc be;have bn:=ap bf;have bq:=ap (M _ _ _ _ _ _ av _ _ _ Q bp (aS _ _) aO bc be);have bm:=ap (H.trans (kC a0 aO H.size));clear bf aO bc be))
   go_roundw
   case rel=>exact⟨j+1,some ⟨bx,0,none⟩,av,by omega,by go_num,rfl,d++ [k],by rw[bz,bD.out];rfl,by rw[gV];exact bn,bq,bm,aF trivial rfl⟩
   case measure=>simp[intOf];omega
  ·have n:=ap (L _ H (ak aQ));have bM:(bl==0)=false:=by simpa using aQ
   clear L A M q aF;go_wp2_with fail;exact ay (v:=.tuple #[ae none 0 0,.bool false]) (by simp[results,results47,go_sem]) rfl ⟨_,_,rfl,n⟩
 ·obtain rfl:j=pl:=by omega
  obtain⟨d,P,S,U,E,T⟩:=aa.out;have n:=ap (ad _ d _ _ E trivial T P S U);clear K ad M an q Z Y V aa P S U E T;go_wp2_with fail;exact ay (v:=.tuple #[ae a j c,.bool true]) (by simp[results,results47,go_sem]) rfl ⟨_,_,rfl,n⟩
def AZ(K:Nat)(b:List (Int×Tc))(c:List (Int×aq×Tc))(a:List Int):Prop:=(b.length<=K/\c.length<=K/\a.length<=K)/\(∀x∈b,dN x.1)/\∀x∈a,dN x
theorem Gf{b:List Tc}{self:Int}{n:Nat}{x:Tm n}{h:Int}(a:nX b self n x=some h):dN h:=by
 unfold nX tw at a;cases f:vl 13 b self n x with
 | none=>rw[f]at a;cases a
 | some e=>
  rw[f,dU]at a;by_cases d:bJ (13+n) e=0
  ·rw[if_pos d,dU]at a;by_cases c:(cn (13+n) e).1.1=3
   ·rw[if_pos c]at a;obtain rfl:=az a;have i:aJ ⟨13,cn (13+n) e⟩:=aU.2 (bM.1 (nP d)).1;have g:=i _ (nB);simp only[cQ,c]at g;simp[rk]at g;unfold dN;omega
   ·rw[if_neg c]at a;cases a
  ·rw[if_neg d]at a;cases a
theorem O8{self:Int}{n K:Nat}{a:Ac (n+1)}{d e:Dg}(b:rO self a d=some e)(j:AZ K d.sends d.spawns d.links):AZ (K+1) e.sends e.spawns e.links:=by
 unfold rO at b;obtain⟨⟨m,o,p⟩,f,g⟩:=j;split at b
 ·obtain⟨l,h,b⟩:=bI.1 b;obtain⟨t,k,rfl⟩:=cG.1 b;refine⟨⟨by simp;omega,by simp;omega,by simp;omega⟩,λx i=>?_,g⟩;rcases de.1 i with c|c
  ·exact f x c
  ·rw[dC.1 c];exact Gf h
 ·split at b
  ·obtain⟨t,k,b⟩:=bI.1 b;split at b
   ·obtain rfl:=az b;exact⟨⟨by simp;omega,by simp;omega,by simp;omega⟩,f,g⟩
   ·cases b
  ·split at b
   ·obtain⟨l,h,rfl⟩:=cG.1 b;refine⟨⟨by simp;omega,by simp;omega,by simp;omega⟩,f,λx i=>?_⟩;rcases de.1 i with c|c
    ·exact g x c
    ·rw[dC.1 c];exact Gf h
   ·obtain rfl:=az b;exact⟨⟨by simp;omega,by simp;omega,by simp;omega⟩,f,g⟩
theorem Kn{self:Int}{n:Nat}:(l:List (Ac (n+1)))->{K:Nat}->{d b:Dg}->qE self l d=some b->AZ K d.sends d.spawns d.links->AZ (K+l.length) b.sends b.spawns b.links
 | [],K,d,b,c,hk=>by
  obtain rfl:=az c;exact hk
 | a::l,K,d,b,c,hk=>by
  unfold qE at c;obtain⟨e,f,c⟩:=bI.1 c;have:=Kn l c (O8 f hk);rw[bA,show K+(l.length+1)=K+1+l.length by omega];exact this
theorem clsC_mem{n:Nat}{s m:Tc}:(l:List (Cl (n+1)))->{y:Cl (n+1)×List Tc}->mT s m l=some y->y.1∈l
 | [],y,h=>by simp[mT]at h
 | c::l,y,h=>by
  unfold mT at h;cases e:lY c s m with
  | none=>
   rw[e]at h;exact bW _ (clsC_mem l h)
  | some b=>
   rw[e]at h;obtain rfl:=az h;exact nB
theorem FG{n:Nat}{l:List (Cl (n+1))}{s:Tc}:(ms:List Tc)->(i:Nat)->{x:Nat×Cl (n+1)×List Tc}->sS l s ms i=some x->x.2.1∈l
 | [],i,x,h=>by simp[sS]at h
 | m::ms,i,x,h=>by
  unfold sS at h;cases e:mT s m l with
  | none=>
   rw[e]at h;exact FG ms (i+1) h
  | some y=>
   rw[e]at h;obtain rfl:=az h;exact clsC_mem l e
theorem rF{n:Nat}{name:aq}:(l:List (Bh n))->{b:Bh n}->gI n name l=some b->b∈l/\b.1=name
 | [],b,h=>by simp[gI]at h
 | c::l,b,h=>by
  unfold gI at h;split at h
  ·rename_i e;obtain rfl:=az h;exact⟨nB,e⟩
  ·exact⟨bW _ (rF l h).1,(rF l h).2⟩
theorem Eh{n:Nat}{prog:List (Bh (n+1))}(c:kT (n+1) prog=true){nm:aq}(d:lQ n prog nm=true):nm.size<=2048:=by
 obtain⟨b,g⟩:=gw.1 d;obtain⟨e,f⟩:=rF prog g;unfold kT at c;simp only[aK,cJ]at c;have a:=c.2 b e;unfold xo at a;simp only[aK]at a;rw[<-f];exact yn a.1.1.1
theorem LQ{n:Nat}{room:Int}{l:List (Bh (n+1))}(i:kT (n+1) l=true){name:aq}{self next:Int}{s:Tc}{ms:List Tc}{e:Tk}(d:od room l name self next s ms=some e):AZ 8 e.sends e.spawns e.links:=by
 unfold od at d;obtain⟨x,o,d⟩:=bI.1 d;obtain⟨y,r,rfl⟩:=cG.1 d;have a:=FG ms 0 o;have q:x.2.1.2.2.length<=8:=by
  unfold gM at a;cases f:gI (n+1) name l with
  | none=>rw[f]at a;simp at a
  | some b=>
   rw[f]at a;have a:x.2.1∈b.2.2:=a;unfold kT at i;simp only[aK,cJ]at i;have g:=i.2 b (rF l f).1;unfold xo at g;simp only[aK,cJ]at g;have j:=g.2 _ a;unfold uf at j;simp only[aK,cw]at j;omega
 have h:AZ 8 [] [] []:=⟨⟨by simp,by simp,by simp⟩,by simp,by simp⟩;unfold fI;cases hd:qE self x.2.1.2.2 ⟨x.2.2,next,[],[],[],false⟩with
 | none=>exact h
 | some c=>
  have m:AZ 8 c.sends c.spawns c.links:=by
   obtain⟨⟨u,v,w⟩,p⟩:=Kn _ (K:=0) hd ⟨⟨by simp,by simp,by simp⟩,by simp,by simp⟩;exact⟨⟨by omega,by omega,by omega⟩,p⟩
  cases k:tw c.b self (n+1) x.2.1.1.2.2 with
  | none=>simp only[k];exact h
  | some t=>
   simp only[k];split
   ·exact m
   ·exact h
theorem wj{d:Type}(f:d->List au)(k:Nat)(c:∀a,(f a).length=k):(l:List d)->(i:Nat)->(a:d)->l[i]?=some a->∀(t:Nat)(b:au),(f a)[t]?=some b->(l.flatMap f)[i*k+t]?=some b
 | [],i,a,h,_,_,_=>by simp at h
 | x::l,0,a,h,t,b,hu=>by
  simp at h;subst h;rw[bP,dB (by have:=(aZ.1 hu).1;omega)];simpa using hu
 | x::l,i+1,a,h,t,b,hu=>by
  rw[bP,dR (by rw[c,Nat.succ_mul];omega),c,show (i+1)*k+t-k=i*k+t by rw[Nat.succ_mul];omega];exact wj f k c l i a (by simpa using h) t b hu
theorem sj{w:ag}{base:Nat}{e:TypeId}{k:Nat}{v:au}{n:Nat}{q:Type}{f:q->List au}{l:List q}(m:w.ownsRow base e k v n (l.flatMap f))(A:0<k)(o:∀d,(f d).length=k):∃a c,v=ae a n c/\(∀b,a=some b->v.ownBlock=some b.block)/\∀(i:Nat)(d:q),l[i]?=some d->∃g,a=some ⟨g,0,none⟩/\g<w.heap.size/\∀(t:Nat)(j:au),(f d)[t]?=some j->ai w g (i*k+t) j:=by
 have s:=m;rcases m.2 with⟨rfl,r⟩|⟨g,c,C,rfl,D,z,F⟩
 ·refine⟨none,0,by rw[r],(λb e=>by cases e),λi d p=>?_⟩;have u:=wj f k o l i d p 0 _ (aN (by rw[o];exact A));have E:=(aZ.1 u).1;have x:=m.1;rw[r,Nat.zero_mul]at x;omega
 ·refine⟨_,c,rfl,(λb e=>by cases e;rfl),λi d p=>⟨g,rfl,(aI.1 z).1,λt j B=>?_⟩⟩;have y:=World.ownsRow.cells s (g:=g) rfl _ _ (wj f k o l i d p t j B);rwa [show∀h,(⟨g,0,none⟩:Addr).add h=⟨g,h,none⟩from λh=>by cases h<;>simp[Addr.add]]at y
def fA(n:Nat)(x:Tm (n+1)):aq:=if x.1.1=4 then match x.2.2[0]? with|some a=>if cg ⟨n,a⟩=2 then (gK n a).1.2.2 else .empty|none=> .empty else .empty
def bZ(n:Nat)(x:Tm (n+1)):List (Tm n):=if x.1.1=4 then match x.2.2[0]? with|some a=>if cg ⟨n,a⟩=2 then x.2.2.drop 1 else []|none=> []else []
def tK(a s:aq):Bool:=a.toList==s.toList
def FC:(n:Nat)->Tm n->List (Tm (n-1))
 | 0,_=> []
 | _+1,x=>x.2.2
def ym(n:Nat)(x:Tm n):aq:=(gK n x).1.2.2
def Au(M n:Nat)(a b c:Tm n):Option (Ac (M+1)):=if cg ⟨n,a⟩=2/\cg ⟨n,c⟩=5 then some (2,(zT M,bf (M+1) n b),(ym n a,p9 n c))else none
def ki(M n:Nat)(d:aq)(q:List (Tm n)):Option (Ac (M+1)):=
 if (tK d nt && decide (q.length=2))=true then (q[0]?).bind λa=>(q[1]?).bind λb=>some (1,(bf (M+1) n a,bf (M+1) n b),(.empty,0))
 else if (tK d jy && decide (q.length=3))=true then (q[0]?).bind λa=>(q[1]?).bind λb=>(q[2]?).bind λc=>Au M n a b c
 else if (tK d ns && decide (q.length=1))=true then (q[0]?).bind λa=>some (3,(bf (M+1) n a,zT M),(.empty,0))
 else if (tK d mC && decide (q.length=0))=true then some (4,(zT M,zT M),(.empty,0))else none
def tg(M:Nat):(n:Nat)->Tm n->Option (Ac (M+1))
 | 0,_=>none
 | n+1,x=>ki M n (fA n x) (bZ n x)
def th(M n:Nat)(e:aq)(q:List (Tm n)):Option (Cl (M+1)):=
 if (tK e My && decide (q.length=4))=true then (q[0]?).bind λa=>(q[1]?).bind λb=>(q[2]?).bind λc=>(q[3]?).bind λd=>
  if cg ⟨n,c⟩=4 then (cZ (tg M (n-1)) (FC n c)).map λl=>((bf (M+1) n a,bf (M+1) n b,bf (M+1) n d),(none,0),l)else none
 else none
def As(M:Nat):(n:Nat)->Tm n->Option (Cl (M+1))
 | 0,_=>none
 | n+1,x=>th M n (fA n x) (bZ n x)
def um(M n:Nat)(b:aq)(q:List (Tm n)):Option (Bh (M+1)):=
 if tK b uz=true then (q[0]?).bind λa=>if cg ⟨n,a⟩=2 then (cZ (As M n) (q.drop 1)).map λl=>(ym n a,(none,0),l)else none
 else none
def Ar(M:Nat):(n:Nat)->Tm n->Option (Bh (M+1))
 | 0,_=>none
 | n+1,x=>um M n (fA n x) (bZ n x)
def Cx(M:Nat):(n:Nat)->Tm n->Option (List (Bh (M+1)))
 | 0,_=>none
 | n+1,x=>if tK (fA n x) ov=true then cZ (Ar M n) (bZ n x)else none
def rA{a:Type}(f:a->List au)(h:Nat->ag->a->Prop)(i:(Nat->Prop)->a->Prop)(S:a->a->Prop)(o:Option a)(w:ag)(e:Ending)(w':ag):Prop:=
 ∃(c:a)(d:Bool),e=.returned (.tuple #[.agg (f c).toArray,.bool d])/\Hid (am w w'/\d=o.isSome/\h w'.heap.size w' c/\i (λb=>w.heap.size<=b) c/\∀g,o=some g->S c g)
def mf{a:Type}(k:Nat)(f:a->List au)(i:Nat->ag->a->Prop)(j:(Nat->Prop)->a->Prop)(S:a->a->Prop)(o:Option (List a))(w:ag)(e:Ending)(w':ag):Prop:=
 ∃(l:List a)(d:ar)(c:Nat)(g:Bool),e=.returned (.tuple #[ae d l.length c,.bool g])/\Hid (am w w'/\g=o.isSome/\(l.length<=c/\c<=maxLen)/\qz w'.heap.size w' k f (i w'.heap.size w') d l/\ue (j (λb=>w.heap.size<=b)) (λb=>w.heap.size<=b) d l/\∀h,o=some h->fl S l h)
theorem sM{d β:Type}(f:d->Option β)(p:List d)(k:Nat)(x:d)(h:p[k]?=some x)(l:List β)(y:β)(a:cZ f (p.take k)=some l)(i:f x=some y):cZ f (p.take (k+1))=some (l++ [y]):=by
 rw[dF,h];have key:∀(c:List d)(l:List β),cZ f c=some l->cZ f (c++ [x])=some (l++ [y]):=by
  intro c
  induction c with
  | nil=>intro l a;simp[cZ]at a;subst a;simp[cZ,i]
  | cons m c ih=>
   intro l a;simp only[cZ]at a;obtain⟨b,e,a⟩:=bI.1 a;obtain⟨j,g,rfl⟩:=cG.1 a;simp only[eW,cZ,e,ih j g];rfl
 exact key _ _ a
end Go.Proofs.YtmmahddlcldmiaaGreat
