/- What is proved here: plain facts and contracts that the claimed theorem stands on. No condition but those that each names. -/
import Derived.Test.YtnidfceinoiboaaGreatG30
import Derived.Test.YtnidfceinoiboaaGreatG29
import Derived.Deep.DeepAppendWide
import Derived.MapKept
namespace Go.Proofs.YtnidfceinoiboaaGreat
open Go.RowKit Go.Maps
open Go.RowKit
open Go.MapKept
set_option maxRecDepth 100000
set_option maxHeartbeats 4000000
variable {base n:Nat} {bp:BL} {mo:Option Nat} {g:Int×Int->Bool} {w:World}
def JZ(base:Nat)(bp:BL)(mo:Option Nat)(n:Nat)(g:Int×Int->Bool)(x:Int)(j:Nat)(a:Option Addr)(L c:Nat)(w W:World):Prop:=
 (cW g x j).length=L/\gS w.heap.size (.slice a L c) (cW g x j) W/\eq base bp mo n (wo g (x::(cW g x j).take j)) W/\bf (λb=>mo=some b) w W
def J7(base:Nat)(bp:BL)(mo:Option Nat)(n:Nat)(g:Int×Int->Bool)(x:Int)(j:Nat)(l:List Int)(d:Option Addr)(e:Nat)(q:Nat)(a:Option Addr)(L c:Nat)(w W:World):Prop:=
 (fp g x j l q).length=L/\gS w.heap.size (.slice a L c) (fp g x j l q) W/\gS w.heap.size (.slice d l.length e) l W/\(∀b,(Value.slice a L c).ownBlock=some b->(Value.slice d l.length e).ownBlock≠some b)/\eq base bp mo n (wo g (x::(cW g x (j+1)).take (j+1))) W/\bf (λb=>mo=some b) w W
theorem nd{v:Value}{a:Option Addr}{L c:Nat}{l:List Int}(b:vQ v l w)(e:v=.slice a L c)(i:Nat)(k:Int)(h:l[i]?=some k):∃g o,a=some ⟨g,o,none⟩/\w.cell? ⟨g,o+i,none⟩=some (.int .i64 k):=by
 obtain⟨j,m,d,b⟩:=b.cells;rw[e]at d;injection d with f n p;subst f;exact b i k h
theorem J7.more{x:Int}{j:Nat}{l:List Int}{u:Option Addr}{v q:Nat}{a:Option Addr}{L c:Nat}{W:World}(A:J7 base bp mo n g x j l u v q a L c w W)(H:l.Nodup)(K:∀b,Il bp mo b->b<w.heap.size){y:Int}(M:l[q]?=some y)(I:(fp g x j l q).contains y=false){o:Obj}{g5 k:Nat}{f:World}(J:f.ownsRow w.heap.size 3 1 (.slice (some ⟨g5,0,none⟩) (L+1) k) (L+1) (jf (fp g x j l q)++ [.int .i64 y]))(G:(W.alloc o).grownBy f (Value.slice a L c).ownBlock)(F:(Value.slice a L c).ownBlock=some g5\/g5=(W.alloc o).heap.size):J7 base bp mo n g x j l u v (q+1) (some ⟨g5,0,none⟩) (L+1) k w f:=by
 obtain⟨m,B,p,r,C,D⟩:=A;have d:fp g x j l (q+1)=fp g x j l q++ [y]:=by
  rw[pd H M,I];rfl
 have E:Below W.heap.size W (W.alloc o):=(ah _ _).alloc (ag _) _;have i:bf (λb=>(Value.slice a L c).ownBlock=some b) W f:=bf.trans (aC E _) (dS G) λb _ d=>d;have t:∀b,(Value.slice a L c).ownBlock=some b->w.heap.size<=b:=λb e=>(B.lt b e).1;refine⟨by rw[d,aX,m];rfl,?_,aT p i λb e d=>r b d e,?_,C.kee i λb e d=>?_,bf.trans D i λb e d=>?_⟩
 ·unfold gS;rw[d,kJ,aX,m];exact J
 ·intro b e s;have z:g5=b:=ap e;subst z;rcases F with h|h
  ·exact r _ h s
  ·have:=(p.lt _ s).2;simp at h;omega
 ·have:=K b e;have:=t b d;omega
 ·have:=t b d;omega
theorem C5(base:Nat)(bp:BL)(mo:Option Nat)(n:Nat)(g:Int×Int->Bool)(x:Int)(w:World)(u:Hid (uq g))(Z:Hid (∀b,Il bp mo b->b<w.heap.size))(X:Hid (Calls Tryz.prog 91 #[.pointer (some ⟨bp.b,bp.o,none⟩),.int .i64 x] w λe w'=>∃a L c,e=.returned (.slice a L c)/\Hid (JZ base bp mo n g x 0 a L c w w'))):Calls Tryz.prog 63 #[.pointer (some ⟨bp.b,bp.o,none⟩),.int .i64 x,.bool false] w λe w'=>∃v,e=.returned v/\Hid (gS w.heap.size v (p9 g x) w'/\eq base bp mo n (wo g (x::p9 g x)) w'/\bf (λb=>mo=some b) w w'):=by
 obtain⟨B,ak,am,an,ao⟩:=bM Cy;have F:Hid (Tryz.prog.info? 3=some B/\B.zero=some (.int .i64 0)/\B.size=1/\B.bytes=8):=⟨ak,am,an,ao⟩;clear ak am an ao;go_enter Tryz.func63,Tryz.ntmps63;go_wp2_with fail;refine X.out.mono ?_;rintro e a8 ⟨a,L,c,rfl,M⟩;go_wp2_with fail;go_loopw [7,8] (λv q wr=>∃(d:Nat)(a:Option Addr)(L c:Nat),v=.slice a L c/\q=.int .i64 d/\d<=99/\L<=99/\Hid (JZ base bp mo n g x d a L c w wr)) (λ_ q _=>100-(intOf q).toNat)
 case atStart=>exact⟨0,a,L,c,rfl,rfl,by omega,by have m:=(ie u.out x 0).le;have p:=M.out.1;omega,M.out⟩
 case round=>
  clear M X;obtain⟨d,a,L,c,rfl,rfl,a1,I,h⟩:=hrel;by_cases aL:d<L
  ·obtain⟨r,J⟩:∃r,(cW g x d)[d]?=some r:=⟨(cW g x d)[d]'(by rw[h.out.1];exact aL),aA _⟩;obtain⟨ad,o,rfl,aE⟩:=nd h.out.2.1.row rfl d r J;have H:=ai J;have az:Hid (dc r):=by
    have:=(ie u.out x d).rng r (ay J);unfold Hid dc;omega
   clear J;have a4:(0:Int)<=(d:Int):=by omega
   have a5:(d:Int)<(L:Int):=by omega
   have Y:=ai (qv h.out.2.2.1 (u.out.wo _) az.out);go_wp2_with fail;refine Y.out.mono ?_;rintro e U ⟨aV,rfl,G⟩;obtain⟨l,z⟩:∃l,l=pj (wo g (x::(cW g x d).take d)) r:=⟨_,rfl⟩;rw[<-z]at G;obtain⟨j,k⟩:∃j,j=l.length:=⟨_,rfl⟩;have a0:j<=99:=by
    have:=tG (wo g (x::(cW g x d).take d)) r;rw[k,z];exact this
   obtain⟨K,C,aR⟩:∃K C,aV=.slice K j C:=by
    obtain⟨aB,aC,e,_⟩:=G.out.1.row;exact⟨aB,aC,by rw[k];exact e⟩
   subst aR;have N:Hid l.Nodup:=by rw[z];exact nH _ _
   have aa:Hid (∀f,(fp g x d l f).length<=99):=by rw[z];exact λf=>G7 u.out H.out f
   have ap:Hid (fp g x d l j=cW g x (d+1)):=by rw[k,z];exact vI H.out
   have W:Hid (J7 base bp mo n g x d l K C 0 (some ⟨ad,o,none⟩) L c w U):=by
    have aS:=Jz H.out (g:=g) (x:=x);have A:=G.out;have aQ:∀b,mo=some b->b<w.heap.size:=λb e=>Z.out b (af e);have aM:bf (λb=>mo=some b) w U:=bf.trans h.out.2.2.2 A.2.2 λ_ _ e=>e;have ab:fp g x d l 0=cW g x d:=by simp[fp,wM]
    have aP:gS w.heap.size (.slice (some ⟨ad,o,none⟩) L c) (cW g x d) U:=aT h.out.2.1 A.2.2 λb R e=>by
     have:=(h.out.2.1.lt b R).1;have:=aQ b e;omega
    refine⟨by rw[ab];exact h.out.1,by rw[ab];exact aP,?_,?_,?_,aM⟩
    ·rw[<-k];exact pT A.1 h.out.2.2.2.size
    ·intro b R ah;rw[<-k]at ah;have:=(A.1.lt b ah).1;have:=(h.out.2.1.lt b R).2;omega
    ·rw[<-aS];exact A.2.1
   replace k:=ai k;clear G h Y aE z;go_wp2_with fail;go_loopw [7,28] (λv q wr=>∃(f:Nat)(a:Option Addr)(L c:Nat),v=.slice a L c/\q=.int .i64 f/\f<=j/\L<=99/\Hid (J7 base bp mo n g x d l K C f a L c w wr)) (λ_ q _=>j-(intOf q).toNat)
   case atStart=>exact⟨0,_,L,c,rfl,rfl,aD _,I,W.out⟩
   case round=>
    clear W;obtain⟨f,a,L,c,rfl,rfl,a3,I,i⟩:=hrel;by_cases aO:f<j
    ·obtain⟨s,T⟩:∃s,l[f]?=some s:=⟨l[f]'(by rw[<-k.out];exact aO),aA _⟩;obtain⟨aG,aU,rfl,aY⟩:=nd i.out.2.2.1.row rfl f s T;have Q:=ai T;clear T;have a6:(0:Int)<=(f:Int):=by omega
     have a7:(f:Int)<(j:Int):=by omega
     have V:=ai (uu i.out.2.1.row (by rw[i.out.1];omega) s);obtain⟨t,S⟩:∃t,t=(fp g x d l f).contains s:=⟨_,rfl⟩;rw[<-S]at V;have P:=ai S;clear S;go_wp2_with fail;refine V.out.mono ?_;rintro e D ⟨rfl,rfl⟩;cases t
     ·have aW:=ai (aa.out (f+1));have ar:Hid (L+1<=99):=by
       have m:=aa.out (f+1);have p:=i.out.1;rw[pd N.out Q.out,<-P.out,aX]at m;simp at m;unfold Hid;omega
      have aw:Hid (w.heap.size<=D.heap.size):=i.out.2.2.2.2.2.size;have av:=ai i.out.2.1;have au:=ai i.out.1
      go_wp2_with (first
       | (at_builtin;refine wpList_append_lies _ rfl _ _ 40 rfl w.heap.size 3 B _ 1 8 Tryz.underlying40 F.out.1 F.out.2.1 F.out.2.2.1 F.out.2.2.2 rfl (by decide) (.slice a L c) L (jf (fp g x d l f)) rfl ((show D.ownsRow w.heap.size 3 1 (.slice a L c) L (jf (fp g x d l f))from by have y:=av.out;unfold gS at y;rw[au.out]at y;exact y).alloc _) ⟨D.heap.size,0,none⟩ 1 1 [.int .i64 s] rfl rfl (World.news_of_block (cs:= #[.int .i64 s]) (t:=3) (fr:=(0,0)) (ax D _)) (by simp[Value.oneCell']) (by decide) (by unfold maxLen;omega) (by omega) (by have:=aw.out;simp;omega) _ rfl ?_;intro aZ aF a9 al aj ag aN;have O:=ai (i.out.more N.out Z.out Q.out P.out.symm al aj ag);clear al aj ag aN))
      go_roundw
      case rel=>exact⟨f+1,_,L+1,aF,rfl,by go_num,by omega,ar.out,O.out⟩
      case measure=>simp[intOf];omega
     ·have O:Hid (J7 base bp mo n g x d l (some ⟨aG,aU,none⟩) C (f+1) a L c w D):=by
        have y:=i.out;unfold J7 at y ⊢;have e:fp g x d l (f+1)=fp g x d l f:=by
         rw[pd N.out Q.out,<-P.out];simp
        rw[e];exact y
      go_wp2_with fail;go_roundw
      case rel=>exact⟨f+1,_,L,c,rfl,by go_num,by omega,I,O.out⟩
      case measure=>simp[intOf];omega
    ·obtain rfl:f=j:=by omega
     have E:Hid (JZ base bp mo n g x (d+1) a L c w wr):=by
      obtain⟨m,p,_,_,aI,aJ⟩:=i.out;rw[ap.out]at m p;exact⟨m,p,aI,aJ⟩
     have aq:Hid (d+1<=99):=by
      have:=(ie u.out x d).le;have:=(aK.1 H.out).1;unfold Hid;omega
     go_wp2_with fail;go_roundw
     case rel=>exact⟨d+1,a,L,c,rfl,by go_num,aq.out,I,E.out⟩
     case measure=>simp[intOf];omega
  ·have E:Hid (cW g x d=p9 g x):=EE u.out (by rw[h.out.1];omega);have a2:¬(d:Int)<(L:Int):=by omega
   go_wp2_with fail
   go_ret
   obtain⟨m,p,ae,aH⟩:=h.out;rw[bk (by omega),E.out]at ae;rw[E.out]at p;exact⟨_,rfl,p,ae,aH⟩
theorem xU(bp:BL)(x:Int)(w:World)(R:World->Prop)(c:Hid (Calls Tryz.prog 91 #[.pointer (some ⟨bp.b,bp.o,none⟩),.int .i64 x] w λe w'=>∃v,e=.returned v/\Hid (R w'))):Calls Tryz.prog 63 #[.pointer (some ⟨bp.b,bp.o,none⟩),.int .i64 x,.bool true] w λe w'=>e=.returned (.slice none 0 0)/\R w':=by
 go_enter Tryz.func63,Tryz.ntmps63;go_wp2_with fail;refine c.out.mono ?_;rintro e d ⟨v,rfl,a⟩;go_wp2_with fail
 go_ret
 exact⟨rfl,a.out⟩
def mD(g:Int×Int->Bool)(x:Int)(a:Bool):List Int:=if a then []else p9 g x
theorem Fb(f:eq base bp mo n g w)(h:uq g){x:Int}(i:dc x)(d:Bool):Calls Tryz.prog 63 #[.pointer (some ⟨bp.b,bp.o,none⟩),.int .i64 x,.bool d] w λe w'=>∃v,e=.returned v/\Hid (gS w.heap.size v (mD g x d) w'/\eq base bp mo n (wo g (x::mD g x d)) w'/\bf (λb=>mo=some b) w w'):=by
 cases d
 ·rw[show mD g x false=p9 g x from if_neg (by decide)];refine C5 base bp mo n g x w h (λb m=>(f.lt b m).2) ?_;refine(qv f h i).mono ?_;rintro e w' ⟨v,rfl,a⟩;obtain⟨j,c,e,_⟩:=a.out.1.row;subst e;exact⟨j,_,c,rfl,rfl,a.out.1,a.out.2.1,a.out.2.2⟩
 ·refine(xU bp x w (λw'=>eq base bp mo n (wo g [x]) w'/\bf (λb=>mo=some b) w w') ?_).mono ?_
  ·refine(qv f h i).mono ?_;rintro e w' ⟨v,rfl,a⟩;exact⟨v,rfl,a.out.2⟩
  ·rw[show mD g x true=[]from if_pos rfl];rintro e w' ⟨rfl,k,l⟩;exact⟨_,rfl,gS.nil _ _,k,l⟩
def fM:ByteArray:=⟨#[115,112,97,119,110]⟩
def pG:ByteArray:=⟨#[101,110,100]⟩
def ey:ByteArray:=⟨#[116,97,107,101]⟩
def kU:ByteArray:=⟨#[115,101,110,100]⟩
def fQ:ByteArray:=⟨#[108,111,115,116]⟩
def KW:Tc:=((0,0,⟨#[]⟩),(none,0),[])
structure Sy where
 last:Int
 ps:List (Int×ByteArray×Tc×List Tc)
 ways:Int×Int->List Tc
 bonds:Int×Int->Bool
 evs:List (ByteArray×Int×Int×Tc)
def Sy.get(s:Sy)(k:Int):Option (ByteArray×Tc×List Tc):=(s.ps.find? λp=>p.1==k).map (·.2)
def Sy.put(s:Sy)(k:Int)(v:ByteArray×Tc×List Tc):Sy:={s with ps:=s.ps.map λp=>if p.1=k then (k,v)else p}
def Sy.tell(s:Sy)(wt:ByteArray)(a b:Int)(t:Tc):Sy:={s with evs:=s.evs++ [(wt,a,b,t)]}
def Sy.add(s:Sy)(a:Int)(nm:ByteArray)(cs:Tc):Sy:=Sy.tell {s with last:=s.last+1,ps:=s.ps++ [(s.last+1,nm,cs,[])]} fM a (s.last+1) cs
def Sy.drop(s:Sy)(x how:Int):Sy:=Sy.tell {s with ps:=s.ps.eraseP λp=>p.1==x} pG x how KW
def Sy.fin(s:Sy)(x how:Int):Sy:=(mD s.bonds x (how==1)).foldl (λs y=>s.drop y 4) {s.drop x how with bonds:=wo s.bonds (x::mD s.bonds x (how==1))}
def Sy.deliver(s:Sy)(room a b:Int)(t:Tc):Sy:=match s.get b with
 | none=>s
 | some (nm,cs,cms)=>if j9 13 t room cs cms=2 then s.tell fQ a b t else if j9 13 t room cs cms=6 then s.fin b 3 else if j9 13 t room cs cms=0 then s.put b (nm,cs,cms++ [t])else s
def Sy.send(s:Sy)(a b:Int)(t:Tc):Sy:=if kP 12 a b t (s.ways (a,b)).length=0 then Sy.tell {s with ways:=fT s.ways (a,b) (s.ways (a,b)++ [t])} kU a b t else s.tell fQ a b t
def Sy.link(s:Sy)(a b:Int):Sy:=if (s.get b).isSome then {s with bonds:=if qF a b=0 then fT s.bonds (gn a b) true else s.bonds}else s
def Sy.may(s:Sy)(n:Nat):Bool:=decide ((s.ps.length:Int)+n<=12) && decide (s.last+n<=90)
section
variable (n:Nat) (prog:List (Bh (n+1))) (room:Int)
def mR(nm:ByteArray):Bool:=(gm (n+1) nm prog).isSome
def Sy.made(s:Sy)(l:List (Int×ByteArray×Tc)):Bool:=s.may l.length && l.all λx=>mR n prog x.2.1 && eZ 13 x.2.2 room x.2.1==0
def Sy.follow(s:Sy)(a:Int)(c:Tk):Sy:=
 let s:=c.spawns.foldl (λs b=>s.add a b.2.1 b.2.2) s
 let s:=c.sends.foldl (λs b=>s.send a b.1 b.2) s
 let s:=c.links.foldl (λs b=>s.link a b) s
 if c.fate=1 then s.fin a 1 else s
def Sy.run(s:Sy)(a:Int):Sy×Int:=match s.get a with
 | none=>(s,4)
 | some (nm,cs,cms)=>if qR n room prog nm a (s.last+1) cs cms=0 then match ng room prog nm a (s.last+1) cs cms with
     | none=>(s,0)
     | some b=>
      let s:=(s.put a (nm,b.state,b.mail)).tell ey a 0 b.message
      (if b.fate=2\/b.fate=3 then s.fin a b.fate else if s.made n prog room b.spawns=false then s.fin a 2 else s.follow a b,0)
  else (s,qR n room prog nm a (s.last+1) cs cms)
def Sy.arrive(s:Sy)(a b:Int):Sy×Int:=match s.ways (a,b)with
 | []=>(s,4)
 | t::l=>
  let s:={s with ways:=fT s.ways (a,b) l}
  (if (s.get b).isSome then s.deliver room a b t else s.tell fQ a b t,0)
def Sy.inject(s:Sy)(a:Int)(k:Nat)(x:Tm k):Sy×Int:=if (s.get a).isSome=false then (s,4)else if bA k x≠0 then (s,bA k x)else if aF k x=false then (s,5)else (s.deliver room 0 a (cn k x),0)
def Sy.do(s:Sy)(c a b:Int)(k:Nat)(x:Tm k):Sy×Int:=if c=1 then s.run n prog room a else if c=2 then s.arrive room a b else if c=3 then s.inject room a k x else (s,1)
def Sy.start(s:Sy)(nm:ByteArray)(k:Nat)(x:Tm k):Sy×Int:=if s.may 1=false then (s,2)else if mR n prog nm=false then (s,4)else if eZ k x room nm≠0 then (s,eZ k x room nm)else (s.add 0 nm (cn k x),0)
end
def rK(o:Option (Int×List Int))(e:ByteArray×Int×Int×Tc):Option (Int×List Int):=o.bind λp=>
 if e.1=fM then if e.2.2.1=p.1+1 then some (p.1+1,p.2++ [p.1+1])else none
 else if e.1=pG then if e.2.1∈p.2/\1<=e.2.2.1/\e.2.2.1<=4 then some (p.1,p.2.erase e.2.1)else none
 else if e.1=ey\/e.1=kU then if e.2.1∈p.2 then some p else none
 else if e.1=fQ then some p else none
def lj(l:List (ByteArray×Int×Int×Tc)):Option (Int×List Int):=l.foldl rK (some (0,[]))
theorem De(l:List (ByteArray×Int×Int×Tc)):l.foldl rK none=none:=by
 induction l with
 | nil=>rfl
 | cons a l ih=>exact ih
theorem lk(l:List (ByteArray×Int×Int×Tc))(e:ByteArray×Int×Int×Tc):lj (l++ [e])=rK (lj l) e:=by simp[lj]
theorem Df{l:List (ByteArray×Int×Int×Tc)}{p:Int×List Int}(a:lj l=some p)(i:Nat):∃q,lj (l.take i)=some q:=by
 cases e:lj (l.take i)with
 | some q=>exact⟨q,rfl⟩
 | none=>
  have b:lj l=(l.drop i).foldl rK (lj (l.take i)):=by
   unfold lj;rw[<-jN,im]
  rw[b,e,De]at a;cases a
theorem uT{p q:Int×List Int}{e:ByteArray×Int×Int×Tc}(a:rK (some p) e=some q):(e.1=fM/\e.2.2.1=p.1+1/\q=(p.1+1,p.2++ [p.1+1]))\/(e.1=pG/\(e.2.1∈p.2/\1<=e.2.2.1/\e.2.2.1<=4)/\q=(p.1,p.2.erase e.2.1))\/((e.1=ey\/e.1=kU)/\e.2.1∈p.2/\q=p)\/(e.1=fQ/\q=p):=by
 simp only[rK,dk]at a;split at a
 ·split at a
  ·exact ae ⟨‹_›,‹_›,(ap a).symm⟩
  ·cases a
 ·split at a
  ·split at a
   ·exact af (ae ⟨‹_›,‹_›,(ap a).symm⟩)
   ·cases a
  ·split at a
   ·split at a
    ·exact af (af (ae ⟨‹_›,‹_›,(ap a).symm⟩))
    ·cases a
   ·split at a
    ·exact af (af (af ⟨‹_›,(ap a).symm⟩))
    ·cases a
theorem wk:(l:List (ByteArray×Int×Int×Tc))->∀{p:Int×List Int},lj l.reverse=some p->0<=p.1/\p.1<=l.length/\p.2.Nodup/\∀k∈p.2,1<=k/\k<=p.1
 | [],p,c=>by
  cases c;simp
 | e::l,p,c=>by
  rw[List.reverse_cons,lk]at c;cases h:lj l.reverse with
  | none=>rw[h]at c;cases c
  | some q=>
   obtain⟨i,n,g,f⟩:=wk l h;rw[h]at c;have o:(e::l).length=l.length+1:=rfl;rcases uT c with⟨_,_,rfl⟩|⟨_,_,rfl⟩|⟨_,_,rfl⟩|⟨_,rfl⟩
   ·refine⟨by simp only;omega,by simp only;omega,eH.2 ⟨g,by simp,λa j b m e=>?_⟩,λk d=>?_⟩
    ·simp only[dj]at m;have:=f a j;omega
    ·simp only[di,dj]at d ⊢;rcases d with d|rfl
     ·have:=f k d;omega
     ·omega
   ·exact⟨i,by simp only;omega,g.erase _,λk d=>f k (List.mem_of_mem_erase d)⟩
   all_goals exact⟨i,by omega,g,f⟩
structure dC (s:Sy):Prop where
 ev:lj s.evs=some (s.last,s.ps.map (·.1))
 len:s.ps.length<=12
 ok:uq s.bonds
 bd:∀x y,s.bonds (gn x y)=true->x∈s.ps.map (·.1)
 nms:∀q∈s.ps,q.2.1.size<=8
theorem dC.nodup{s:Sy}(a:dC s):(s.ps.map (·.1)).Nodup:=(wk s.evs.reverse (by rw[List.reverse_reverse];exact a.ev)).2.2.1
theorem dC.zero:dC ⟨0,[],λ_=> [],λ_=>false,[]⟩:=⟨rfl,by decide,λ_ a=>(by cases a),λ_ _ a=>(by cases a),λ_ a=>(by cases a)⟩
theorem tC(x:Int)(l:List (Int×ByteArray×Tc×List Tc)):(l.eraseP λp=>p.1==x).map (·.1)=(l.map (·.1)).erase x:=by
 induction l with
 | nil=>rfl
 | cons p l ih=>
  rw[List.eraseP_cons,aH,List.erase_cons];cases h:p.1==x
  ·simp[ih]
  ·simp
theorem JL:pG≠fM/\ey≠fM/\ey≠pG/\kU≠fM/\kU≠pG/\fQ≠fM/\fQ≠pG/\fQ≠ey/\fQ≠kU:=by decide
theorem dC.tell{s:Sy}(c:dC s){wt:ByteArray}{a b:Int}{t:Tc}(m:wt=fQ\/(wt=ey\/wt=kU)/\a∈s.ps.map (·.1)):dC (s.tell wt a b t):=by
 refine⟨?_,c.len,c.ok,c.bd,c.nms⟩;obtain⟨n,e,f,g,h,i,j,k,l⟩:=JL;show lj (s.evs++ [(wt,a,b,t)])=_;rw[lk,c.ev];rcases m with rfl|⟨rfl|rfl,d⟩
 ·simp[rK,i,j,k,l,Sy.tell]
 ·simp[rK,e,f,d,Sy.tell]
 ·simp[rK,g,h,d,Sy.tell]
theorem dC.add{s:Sy}(b:dC s)(j:s.ps.length+1<=12)(a:Int){nm:ByteArray}(d:nm.size<=8)(cs:Tc):dC (s.add a nm cs):=by
 refine⟨?_,by simp[Sy.add,Sy.tell];omega,b.ok,λh i f=>?_,λg e=>?_⟩
 ·show lj (s.evs++ [(fM,a,s.last+1,cs)])=_;rw[lk,b.ev];simp[rK,Sy.add,Sy.tell]
 ·have:=b.bd h i f;simp only[Sy.add,Sy.tell,ft];exact lL _ this
 ·rcases di.1 e with c|c
  ·exact b.nms g c
  ·rw[dj.1 c];exact d
theorem r8{s:Sy}{k:Int}:(s.get k).isSome=true ↔ k∈s.ps.map (·.1):=by
 simp[Sy.get]
theorem s9{s:Sy}(b:dC s){k:Int}{v:ByteArray×Tc×List Tc}(a:s.get k=some v):v.1.size<=8:=by
 unfold Sy.get at a;obtain⟨d,c,rfl⟩:=cD.1 a;exact b.nms d (List.mem_of_find?_eq_some c)
theorem dC.put{s:Sy}(a:dC s)(k:Int){v:ByteArray×Tc×List Tc}(f:v.1.size<=8):dC (s.put k v)/\(s.put k v).ps.map (·.1)=s.ps.map (·.1):=by
 have b:(s.put k v).ps.map (·.1)=s.ps.map (·.1):=by
  simp only[Sy.put,fu];refine iT λh _=>?_;simp only[Function.comp];split
  ·rename_i c;exact c.symm
  ·rfl
 refine⟨⟨by rw[b];exact a.ev,by simp[Sy.put];exact a.len,a.ok,by rw[b];exact a.bd,λi d=>?_⟩,b⟩;obtain⟨g,e,rfl⟩:=cC.1 d;split
 ·exact f
 ·exact a.nms g e
theorem dC.ways{s:Sy}(a:dC s)(f:Int×Int->List Tc):dC {s with ways:=f}:=⟨a.ev,a.len,a.ok,a.bd,a.nms⟩
theorem FA:(l:List Int)->(s:Sy)->∀how:Int,1<=how->how<=4->l.Nodup->(∀y∈l,y∈s.ps.map (·.1))->lj s.evs=some (s.last,s.ps.map (·.1))->(s.ps.map (·.1)).Nodup-> lj (l.foldl (λs y=>s.drop y how) s).evs=some (s.last,(l.foldl (λs y=>s.drop y how) s).ps.map (·.1))/\(l.foldl (λs y=>s.drop y how) s).last=s.last/\(l.foldl (λs y=>s.drop y how) s).ps.length<=s.ps.length/\(l.foldl (λs y=>s.drop y how) s).bonds=s.bonds/\(∀q∈(l.foldl (λs y=>s.drop y how) s).ps,q∈s.ps)/\∀x,x∈(l.foldl (λs y=>s.drop y how) s).ps.map (·.1) ↔ x∈s.ps.map (·.1)/\x∉l
 | [],s,_,_,_,_,_,he,_=>by simp[he]
 | y::l,s,how,h1,h4,hn,hm,he,hd=>by
  obtain⟨h,i⟩:=jR.1 hn;have e:(s.drop y how).ps.map (·.1)=(s.ps.map (·.1)).erase y:=tC y s.ps;have g:=hm y (by simp)
  obtain⟨j,k,m,n,p,o⟩:=FA l (s.drop y how) how h1 h4 i (λz d=>by
   rw[e]
   exact(List.mem_erase_of_ne λz2:z=y=>h (z2▸d)).2 (hm z (bR _ d))) (by
   show lj (s.evs++ [(pG,y,how,KW)])=_;rw[lk,he,e];simp only[rK,dk,JL.1,if_false,cI];rw[if_pos ⟨g,h1,h4⟩]
   rfl) (by rw[e];exact hd.erase _)
  refine⟨j,k,au m ?_,n,λq f=>List.mem_of_mem_eraseP (p q f),λx=>?_⟩
  ·show (s.ps.eraseP _).length<=_;exact List.length_eraseP_le
  ·rw[gK,o,e,List.Nodup.mem_erase_iff hd,br];constructor
   ·rintro ⟨⟨a,b⟩,c⟩;exact⟨b,λz=>z.elim a c⟩
   ·rintro ⟨a,b⟩;exact⟨⟨λz=>b (ae z),a⟩,λz=>b (af z)⟩
theorem BU{g:Int×Int->Bool}(c:uq g){a:List Int}(b:∀x y,g (gn x y)=true->x∈a){x:Int}:∀y∈p9 g x,y∈a:=by
 intro y f;obtain⟨h,d⟩:=cB f;obtain⟨k,_,e⟩:=(mm c x).from' h y d;exact b y k (by rw[Gn];exact(gC.1 e).2)
theorem dC.fin{s:Sy}(b:dC s){x how:Int}(H:x∈s.ps.map (·.1))(B:1<=how)(C:how<=4):dC (s.fin x how):=by
 have k:=b.nodup;obtain⟨n,o,p,L,q,h⟩:=FA [x] s how B C (by simp) (by simpa using H) b.ev k;have j:(mD s.bonds x (how==1)).Nodup/\x∉mD s.bonds x (how==1)/\∀a∈mD s.bonds x (how==1),a∈s.ps.map (·.1):=by
  unfold mD;split
  ·simp
  ·exact⟨(mm b.ok x).nodup,(mm b.ok x).self,BU b.ok b.bd⟩
 have E:s.fin x how=(mD s.bonds x (how==1)).foldl (λs a=>s.drop a 4) {s.drop x how with bonds:=wo s.bonds (x::mD s.bonds x (how==1))}:=rfl;rw[E];generalize mD s.bonds x (how==1)=d at j;obtain⟨y,z,A⟩:=j;have D:((s.drop x how).ps.map (·.1)).Nodup:=by
  show ((s.ps.eraseP λI=>I.1==x).map (·.1)).Nodup;rw[tC];exact k.erase _
 have F:∀a,a∈d->a∉ [x]:=λa c m=>z (by rw[dj]at m;rw[<-m];exact c);obtain⟨r,t,u,i,w,v⟩:=FA d {s.drop x how with bonds:=wo s.bonds (x::d)} 4 (by omega) (by omega) y (λa c=>(h a).2 ⟨A a c,F a c⟩) (o▸n) D;refine⟨t▸r,au u (au p b.len),i▸b.ok.wo _,λf K l=>?_,λe G=>b.nms e (q e (w e G))⟩;rw[i]at l;obtain⟨J,g,M⟩:=Hl.1 l;simp only[br,not_or]at g;exact(v f).2 ⟨(h f).2 ⟨b.bd f K J,by simp only[dj];exact g.1⟩,g.2⟩
theorem dC.deliver{s:Sy}(c:dC s)(room a b:Int)(t:Tc):dC (s.deliver room a b t):=by
 unfold Sy.deliver;split
 ·exact c
 ·rename_i h f e d;have g:b∈s.ps.map (·.1):=r8.1 (by rw[d];rfl);split
  ·exact c.tell (ae rfl)
  ·split
   ·exact c.fin g (by omega) (by omega)
   ·split
    ·exact(c.put _ (v:=(h,f,e++ [t])) (s9 c d:)).1
    ·exact c
theorem dC.send{s:Sy}(c:dC s){a:Int}(d:a∈s.ps.map (·.1))(b:Int)(t:Tc):dC (s.send a b t)/\(s.send a b t).ps=s.ps:=by
 unfold Sy.send;split
 ·exact⟨(c.ways _).tell (af ⟨af rfl,d⟩),rfl⟩
 ·exact⟨c.tell (ae rfl),rfl⟩
theorem dC.link{s:Sy}(c:dC s){a:Int}(h:a∈s.ps.map (·.1))(b:Int):dC (s.link a b)/\(s.link a b).ps=s.ps:=by
 unfold Sy.link;split
 ·rename_i i;refine⟨?_,rfl⟩;by_cases d:qF a b=0
  ·rw[if_pos d];have e:(1<=a/\a<=99)/\(1<=b/\b<=99)/\a≠b:=by
    unfold qF at d;split at d
    ·rename_i j;simpa [l9]using j
    ·cases d
   refine⟨c.ev,c.len,c.ok.link e.1 e.2.1 e.2.2,λk l f=>?_,c.nms⟩;simp only[fT]at f;split at f
   ·rename_i g;rcases CL.1 g with⟨rfl,rfl⟩|⟨rfl,rfl⟩
    ·exact h
    ·exact r8.1 i
   ·exact c.bd k l f
  ·rw[if_neg d];exact⟨c.ev,c.len,c.ok,c.bd,c.nms⟩
 ·exact⟨c,rfl⟩
theorem Cf(a:Int):(l:List (Int×ByteArray×Tc))->∀{s:Sy},dC s->s.ps.length+l.length<=12->(∀x∈l,x.2.1.size<=8)->a∈s.ps.map (·.1)->dC (l.foldl (λs x=>s.add a x.2.1 x.2.2) s)/\a∈(l.foldl (λs x=>s.add a x.2.1 x.2.2) s).ps.map (·.1)
 | [],_,h,_,_,ha=>⟨h,ha⟩
 | x::l,s,h,hl,hn,ha=>by
  simp only[aW]at hl;refine Cf a l (h.add (by omega) a (hn x (by simp)) _) ?_ (λy b=>hn y (bR _ b)) ?_
  ·simp[Sy.add,Sy.tell];omega
  ·simp only[Sy.add,Sy.tell,ft];exact lL _ ha
theorem wG{b:Type}(a:Int)(f:Sy->b->Sy)(c:∀(s:Sy)(x:b),dC s->a∈s.ps.map (·.1)->dC (f s x)/\(f s x).ps=s.ps):(l:List b)->∀{s:Sy},dC s->a∈s.ps.map (·.1)->dC (l.foldl f s)/\a∈(l.foldl f s).ps.map (·.1)
 | [],_,h,ha=>⟨h,ha⟩
 | x::l,s,h,ha=>by
  obtain⟨d,e⟩:=c s x h ha;exact wG a f c l d (by rw[e];exact ha)
theorem dC.follow{s:Sy}(c:dC s){a:Int}(d:a∈s.ps.map (·.1))(b:Tk)(k:s.ps.length+b.spawns.length<=12)(l:∀x∈b.spawns,x.2.1.size<=8):dC (s.follow a b):=by
 obtain⟨i,f⟩:=Cf a b.spawns c k l d;obtain⟨j,g⟩:=wG a (λ(s:Sy)(x:Int×Tc)=>s.send a x.1 x.2) (λs x c d=>c.send d _ _) b.sends i f;obtain⟨e,h⟩:=wG a (λ(s:Sy)(x:Int)=>s.link a x) (λs x c d=>c.link d _) b.links j g;unfold Sy.follow;simp only;split
 ·exact e.fin h (by omega) (by omega)
 ·exact e
theorem vk{k:Nat}{x:Tm k}{room:Int}{nm:ByteArray}(a:eZ k x room nm=0):nm.size<=8:=by
 unfold eZ at a;split at a
 ·cases a
 ·rename_i b;simp only[cg,kK,Bool.not_eq_false,az,bN]at b;omega
theorem dC.do{n:Nat}{prog:List (Bh (n+1))}{room:Int}{s:Sy}(c:dC s)(r a b:Int)(k:Nat)(x:Tm k):dC (s.do n prog room r a b k x).1:=by
 unfold Sy.do;split
 ·unfold Sy.run;split
  ·exact c
  ·rename_i e w u j;have i:a∈s.ps.map (·.1):=r8.1 (by rw[j];rfl);split
   ·split
    ·exact c
    ·rename_i d _;obtain⟨p,h⟩:=c.put a (v:=(e,d.state,d.mail)) (s9 c j:);have f:dC ((s.put a (e,d.state,d.mail)).tell ey a 0 d.message):=p.tell (af ⟨ae rfl,by rw[h];exact i⟩);have o:((s.put a (e,d.state,d.mail)).tell ey a 0 d.message).ps.map (·.1)=s.ps.map (·.1):=h;have g:a∈((s.put a (e,d.state,d.mail)).tell ey a 0 d.message).ps.map (·.1):=by rw[o];exact i
     simp only;split
     ·exact f.fin g (by omega) (by omega)
     ·split
      ·exact f.fin g (by omega) (by omega)
      ·rename_i m;simp only[Sy.made,Sy.may,az,bN,Bool.not_eq_false,bS,ci]at m;exact f.follow g d (by omega) λx q=>vk (m.2 x q).2
   ·exact c
 ·split
  ·unfold Sy.arrive;split
   ·exact c
   ·rename_i t l _;simp only;split
    ·exact(c.ways _).deliver _ _ _ _
    ·exact(c.ways _).tell (ae rfl)
  ·split
   ·unfold Sy.inject;split
    ·exact c
    ·split
     ·exact c
     ·split
      ·exact c
      ·exact c.deliver _ _ _ _
   ·exact c
theorem dC.start{n:Nat}{prog:List (Bh (n+1))}{room:Int}{s:Sy}(a:dC s)(nm:ByteArray)(k:Nat)(x:Tm k):dC (s.start n prog room nm k x).1:=by
 unfold Sy.start;split
 ·exact a
 ·rename_i b;split
  ·exact a
  ·split
   ·exact a
   ·rename_i c;simp only[Sy.may,Bool.not_eq_false,az,bN]at b;exact a.add (by omega) _ (vk (Decidable.not_not.1 c)) _
variable {P:Program} {md:Region.Mode} {ops:Array Oper} {Q:Exit->Act->World->Prop} {S:World->Prop} {X:Nat}
theorem Hs(i:Nat){d:Oper}{v:Value}{f:Nat}{e:Array Bool}{a:Act}{w:World}(l:ops[i]?=some d)(b:(Region.noSelect ops && Region.free md ops e i && (Region.ready md ops e).contains i && xD md ops X i)=true)(h:∀c a w,Q (.panic c) (a.put d.dst v) w->Q (.panic c) a w)(k:d.guard=none)(m:∀w,S w->(execOp a.eval d).run P w=.ok (.value v) w)(j:S w)(g:jk P md ops Q S X f (e.setIfInBounds i true) (a.put d.dst v) w):jk P md ops Q S X (f+1) e a w:=by
 simp only[az]at b;exact aM l b.1.1.1 b.1.1.2 b.1.2 b.2 h k m j g
theorem FO:(Tryz.prog.info? 39).map (λi=>(i.zero,i.size,i.bytes))=some (some (.agg #[.string ⟨#[]⟩,.int .i64 0,.int .i64 0,.int .i64 0,.int .i64 0,.string ⟨#[]⟩,.slice none 0 0]),7,88):=by kernel_rfl
def JH(base:Nat)(wt:ByteArray)(a b:Int)(f:Option Addr)(L h:Nat)(xs:List Value)(R:World->World->Int->Int->ByteArray->Option Addr->Nat->Nat->Prop)(w i:World)(g c:Nat):Prop:=
 ∃d e y0 y1 y2 ya yl yc,Below w.heap.size w d/\Below d.heap.size d e/\R d e y0 y1 y2 ya yl yc/\bf (λj=>(Value.slice f L h).ownBlock=some j) e i/\i.ownsRow base 39 7 (.slice (some ⟨g,0,none⟩) (L+1) c) (L+1) (xs++ [.string wt,.int .i64 a,.int .i64 b,.int .i64 y0,.int .i64 y1,.string y2,.slice ya yl yc])/\((Value.slice f L h).ownBlock=some g\/e.heap.size<=g)
theorem BR(base m:Nat)(wt:ByteArray)(a b A B:Int)(C:ByteArray)(xa:Option Addr)(D xc:Nat)(n:Option Addr)(L q:Nat)(xs:List Value)(R:World->World->Int->Int->ByteArray->Option Addr->Nat->Nat->Prop)(w:World)(aV:L<=100000)(X:m<w.heap.size)(aW:base<=w.heap.size)(Z:Hid (w.cell? ⟨m,6,none⟩=some (.slice n L q)/\w.frozen? ⟨m,6,none⟩=false))(ak:Hid (w.ownsRow base 39 7 (.slice n L q) L xs))(ad:Hid ((Value.slice n L q).ownBlock≠some m))(aa:Hid (∀W,Below w.heap.size w W->Calls Tryz.prog 45 #[.agg #[.int .i64 A,.int .i64 B,.string C,.slice xa D xc]] W λe w'=>∃y0 y1 y2 ya yl yc,e=.returned (.agg #[.int .i64 y0,.int .i64 y1,.string y2,.slice ya yl yc])/\Hid (Below W.heap.size W w'/\R W w' y0 y1 y2 ya yl yc))):Calls Tryz.prog 35 #[.pointer (some ⟨m,0,none⟩),.string wt,.int .i64 a,.int .i64 b,.agg #[.int .i64 A,.int .i64 B,.string C,.slice xa D xc]] w λe w'=>e=.returned (.tuple #[])/\Hid (∃g c r,w'=r.setCell ⟨m,6,none⟩ (.slice (some ⟨g,0,none⟩) (L+1) c)/\JH base wt a b n L q xs R w r g c):=by
 obtain⟨aJ,aq,aw,ay,az⟩:=bM FO;have M:=ai (⟨aq,aw,ay,az⟩:_/\_/\_/\_);clear aq aw ay az;go_enter Tryz.func35,Tryz.ntmps35;go_upto_region 1 with fail;generalize aA:w.alloc _=s;have y:Hid (Below w.heap.size w s/\s.heap[w.heap.size]?=some (.cells #[.int .i64 A,.int .i64 B,.string C,.slice xa D xc] 30)):=by
  rw[<-aA];exact⟨(ah _ _).alloc (ag _) _,ax _ _⟩
 clear aA;obtain⟨h,T⟩:∃h,h=w.heap.size:=⟨_,rfl⟩;rw[<-T];rw[<-T]at y;have O:=ai T;clear T;have N:Hid (∀W:World,Below s.heap.size s W->W.cell? ⟨m,6,none⟩=some (.slice n L q)/\W.cell? ⟨h,0,none⟩=some (.int .i64 A)/\W.cell? ⟨h,1,none⟩=some (.int .i64 B)/\W.cell? ⟨h,2,none⟩=some (.string C)/\W.cell? ⟨h,3,none⟩=some (.slice xa D xc)):=λW d=>by
  have Q:=(d.block h (aE.1 y.out.2).1).trans y.out.2;have aF:=(O.out▸y.out.1:Below w.heap.size w s).trans (d.mono (O.out▸y.out.1:Below w.heap.size w s).size);exact⟨(aF.cell (p:=⟨m,6,none⟩) X).trans Z.out.1,ab Q 0,ab Q 1,ab Q 2,ab Q 3⟩
 have G:Hid (Below s.heap.size s s.drew):=(ah _ _).drew;have z:Hid (Below w.heap.size w s):=by
  have d:=y.out.1;rw[O.out]at d;exact d
 have u:=N.out _ G.out;refine wp_region_noPanic ?_;refine iR (λW=>W.cell? ⟨m,6,none⟩=some (.slice n L q)/\W.cell? ⟨h,0,none⟩=some (.int .i64 A)/\W.cell? ⟨h,1,none⟩=some (.int .i64 B)/\W.cell? ⟨h,2,none⟩=some (.string C)/\W.cell? ⟨h,3,none⟩=some (.slice xa D xc)) 15 (by kernel_rfl) ?_
 try simp only[eQ]
 refine Hs 0 (v:= ?_) rfl (by kernel_rfl) (λ_ _ _ d=>d) rfl ?_ u ?_;rotate_left
 ·intro w' f
  try dsimp only at f
  go_simp
  try with_reducible rfl
 try simp only[Act.put,bL]
 refine Hs 1 (v:= ?_) rfl (by kernel_rfl) (λ_ _ _ d=>d) rfl ?_ u ?_;rotate_left
 ·intro w' f
  try dsimp only at f
  go_simp
  try with_reducible rfl
 try simp only[Act.put]
 refine Hs 2 (v:= ?_) rfl (by kernel_rfl) (λ_ _ _ d=>d) rfl ?_ u ?_;rotate_left
 ·intro w' f
  try dsimp only at f
  go_simp
  try with_reducible rfl
 try simp only[Act.put]
 refine Hs 3 (v:= ?_) rfl (by kernel_rfl) (λ_ _ _ d=>d) rfl ?_ u ?_;rotate_left
 ·intro w' f
  try dsimp only at f
  go_simp
  try with_reducible rfl
 try simp only[Act.put]
 refine Hs 4 (v:= ?_) rfl (by kernel_rfl) (λ_ _ _ d=>d) rfl ?_ u ?_;rotate_left
 ·intro w' f
  try dsimp only at f
  go_simp
  try with_reducible rfl
 try simp only[Act.put]
 refine Hs 5 (v:= ?_) rfl (by kernel_rfl) (λ_ _ _ d=>d) rfl ?_ u ?_;rotate_left
 ·intro w' f
  try dsimp only at f
  go_simp
  try with_reducible rfl
 try simp only[Act.put]
 refine Hs 6 (v:= ?_) rfl (by kernel_rfl) (λ_ _ _ d=>d) rfl ?_ u ?_;rotate_left
 ·intro w' f
  try dsimp only at f
  go_simp
  try with_reducible rfl
 try simp only[Act.put]
 refine Hs 7 (v:= ?_) rfl (by kernel_rfl) (λ_ _ _ d=>d) rfl ?_ u ?_;rotate_left
 ·intro w' f
  try dsimp only at f
  go_simp
  try with_reducible rfl
 try simp only[Act.put]
 refine Hs 8 (v:= ?_) rfl (by kernel_rfl) (λ_ _ _ d=>d) rfl ?_ u ?_;rotate_left
 ·intro w' f
  try dsimp only at f
  go_simp
  try with_reducible rfl
 try simp only[Act.put]
 refine cN (i:=9) (by kernel_rfl) rfl rfl (λx l=>?_) (by decide)
 go_simp
 refine(aa.out _ (z.out.trans (G.out.mono z.out.size))).mono ?_;rintro e j ⟨y0,y1,y2,ya,yl,yc,rfl,I⟩;have E:=ai (G.out.trans (I.out.1.mono G.out.size));have S:=N.out j E.out;refine l.out _ _ (λ_=>S) (λ_=>?_);clear l x
 try simp only[Act.put,bL,da,cZ]
 refine Hs 10 (v:= ?_) rfl (by kernel_rfl) (λ_ _ _ d=>d) rfl ?_ S ?_;rotate_left
 ·intro w' f
  try dsimp only at f
  go_simp
  try with_reducible rfl
 try simp only[Act.put,bL]
 have F:=ai (z.out.trans (E.out.mono z.out.size));obtain⟨o,ar⟩:∃o:Obj,o=.cells #[.string wt,.int .i64 a,.int .i64 b,.int .i64 y0,.int .i64 y1,.string y2,.slice ya yl yc] 39:=⟨_,rfl⟩;have K:Hid (Below j.heap.size j (j.alloc o)):=(ah _ _).alloc (ag _) o;have al:=ai (N.out _ (E.out.trans (K.out.mono E.out.size)));have af:Hid ((j.alloc o).ownsRow base 39 7 (.slice n L q) L xs):=aT ak.out (aC (F.out.trans (K.out.mono F.out.size)) λ_=>False) λ_ _ d=>d;have ae:Hid ((j.alloc o).heap[j.heap.size]?=some o):=ax j o;have U:Hid ((j.alloc o).heap.size=j.heap.size+1):=(show _=_ by simp);rw[ar]at K al af ae U;clear ar o;refine cN (i:=11) (by kernel_rfl) rfl rfl (λx l=>?_) (by decide)
 go_simp
 refine l.out _ _ (λ_=>al.out) (λaD=>?_);clear l x
 try simp only[Act.put,bL,da,cZ]
 refine cN (i:=12) (by kernel_rfl) rfl rfl (λx l=>?_) (by decide);refine wp_append_lies _ _ _ 36 rfl base 39 aJ _ 7 88 Tryz.underlying36 M.out.1 M.out.2.1 M.out.2.2.1 M.out.2.2.2 rfl (by decide) (.slice n L q) L xs rfl af.out ⟨j.heap.size,0,none⟩ 1 1 [.string wt,.int .i64 a,.int .i64 b,.int .i64 y0,.int .i64 y1,.string y2,.slice ya yl yc] rfl rfl (World.news_of_block (cs:= #[.string wt,.int .i64 a,.int .i64 b,.int .i64 y0,.int .i64 y1,.string y2,.slice ya yl yc]) (t:=39) (fr:=(0,0)) ae.out) (by simp[Value.oneCell']) (by decide) (by unfold maxLen;omega) (by omega) (by have:=U.out;have:=F.out.size;omega) _ rfl ?_;intro P am r au ap an aG;have H:Hid (bf (λaM=>(Value.slice n L q).ownBlock=some aM) j r):=bf.trans (aC K.out _) (dS ap) λ_ _ e=>e;have Y:Hid ((Value.slice n L q).ownBlock=some P\/j.heap.size<=P):=an.imp id λe=>by have:=U.out;omega
 have aj:=ai au;have J:Hid ((r.cell? ⟨m,6,none⟩=some (.slice n L q)/\r.cell? ⟨h,0,none⟩=some (.int .i64 A)/\r.cell? ⟨h,1,none⟩=some (.int .i64 B)/\r.cell? ⟨h,2,none⟩=some (.string C)/\r.cell? ⟨h,3,none⟩=some (.slice xa D xc))/\r.frozen? ⟨m,6,none⟩=false):=by
  have aH:¬(Value.slice n L q).ownBlock=some h:=λe=>by
   have:=(ak.out.lt h e).2;have:=O.out;omega
  have aI:h<j.heap.size:=by
   have:=E.out.size;have:=(aE.1 y.out.2).1;omega
  have av:m<j.heap.size:=aL X F.out.size;obtain⟨aN,aO,aP,aQ,aR⟩:=S;have k:=λaK=>H.out.cell aK aI aH;refine⟨⟨(H.out.cell 6 av ad.out).trans aN,(k 0).trans aO,(k 1).trans aP,(k 2).trans aQ,(k 3).trans aR⟩,?_⟩;have ao:=Z.out.2;unfold World.frozen? at ao ⊢;rw[H.out.block m av ad.out,F.out.block m X];exact ao
 clear au ap an aG;refine l.out _ _ (λ_=>J.out.1) (λV=>?_);clear l x
 try simp only[Act.put,bL]
 refine cN (i:=13) (by kernel_rfl) rfl rfl (λx l=>?_) (by decide)
 go_simp
 refine l.out _ _ (λ_=>V) (λ_=>?_);clear l x
 try simp only[Act.put,bL,da,cZ]
 refine Hs 14 (v:= ?_) rfl (by kernel_rfl) (λ_ _ _ d=>d) rfl ?_ V ?_;rotate_left
 ·intro w' f
  try dsimp only at f
  go_simp
  try with_reducible rfl
 try simp only[Act.put,bL]
 have aU:=J.out.2;have aS:=J.out.1.1;refine iQ (by kernel_rfl) rfl rfl (by kernel_rfl) (λx l=>?_)
 go_simp
 refine l.out _ _ (NoPanic.normal ?_);clear l x
 try simp only[Act.put,bL,da,cZ]
 have aB:Hid (JH base wt a b n L q xs R w r P am):=⟨s.drew,j,y0,y1,y2,ya,yl,yc,z.out.trans (G.out.mono z.out.size),I.out.1,I.out.2,H.out,aj.out,Y.out⟩;clear N aa J aj Y H I u V aD S;exact dP (v:=.tuple #[]) (by simp[results]) rfl ⟨rfl,P,am,r,rfl,aB.out⟩
def xI(b:Nat):Value:=.pointer (some ⟨b,0,none⟩)
def qk{b:Type}(f:b->Value)(w:World)(c:Nat)(l:List (Int×b)):Prop:=∃es a,w.heap[c]?=some (.map es a)/\es.toList.map (λe=>(e.key,e.val))=l.map (λp=>(.int .i64 p.1,f p.2))/\Stamped es a
def cE{a:Type}(l:List (Int×a))(k:Int):Option a:=(l.find? λp=>p.1==k).map (·.2)
section
variable {α:Type} {f:α->Value}
theorem Cx(k:Int):(es:List MapEntry)->(l:List (Int×α))->(i:Nat)->es.map (λe=>(e.key,e.val))=l.map (λp=>(.int .i64 p.1,f p.2))-> Instr.findNow (.int .i64) (.int .i64 k) es i=some ((l.findIdx? (λp=>p.1==k)).map λj=>(i+j,((cE l k).map f).getD undef))
 | [],[],_,_=>rfl
 | [],_::_,_,h=>by simp at h
 | _::_,[],_,h=>by simp at h
 | e::es,p::l,i,h=>by
  rw[aH,aH,List.cons.injEq]at h;obtain⟨b,g⟩:=h;have d:e.key=.int .i64 p.1:=(Prod.mk.inj b).1;have n:e.val=f p.2:=(Prod.mk.inj b).2;have ih:=Cx k es l (i+1) g;by_cases a:p.1=k
  ·have c:(k==p.1)=true:=by simp[a]
   simp[Instr.findNow,Instr.sameNow,d,n,a,List.findIdx?_cons,cE]
  ·have c:(k==p.1)=false:=by simpa using λe=>a e.symm
   have m:(p.1==k)=false:=by simpa using a
   rw[Instr.findNow,d];simp only[Instr.sameNow,cI,c];rw[ih];simp only[List.findIdx?_cons,cE,gJ,m];congr 1;cases List.findIdx? (λp=>p.1==k) l with
   | none=>rfl
   | some j=>simp;omega
theorem lZ{w:World}{es:Array MapEntry}{l:List (Int×α)}(k:Int)(b:es.toList.map (λe=>(e.key,e.val))=l.map λp=>(.int .i64 p.1,f p.2)):(Instr.findKey 3 (.int .i64 k) es.toList).run Tryz.prog w=.ok ((l.findIdx? (λp=>p.1==k)).map λj=>(j,((cE l k).map f).getD undef)) w:=by
 have c:=Tryz.underlying3;have a:=Cx k es.toList l 0 b;simp only[cU]at a;simp[Instr.findKey,bV c,Result.andThen,a]
theorem kh(w:World)(em:Bool)(k:Int):(Instr.checkKey em 10000 3 (.int .i64 k)).run Tryz.prog w=.ok () w:=by
 have a:=Tryz.underlying3;unfold Instr.checkKey;simp[bV a,Result.andThen]
theorem wI{l:List (Int×α)}{k:Int}(a:cE l k=none):l.findIdx? (λp=>p.1==k)=none:=by
 unfold cE at a;rw[nS];intro p b;rw[Option.map_eq_none_iff,nR]at a;simpa using a p b
theorem IL{l:List (Int×α)}{k:Int}{b:α}(a:cE l k=some b):∃j,l.findIdx? (λp=>p.1==k)=some j:=by
 cases e:l.findIdx? (λp=>p.1==k)with
 | some j=>exact⟨j,rfl⟩
 | none=>
  unfold cE at a;rw[nS]at e;have:l.find? (λp=>p.1==k)=none:=nR.2 λp c=>by simpa using e p c
  rw[this]at a;cases a
variable {w:World} {mb mt et:Nat} {l:List (Int×α)}
theorem qk.look(h:qk f w mb l)(g:Tryz.prog.underlying mt=some (.map 3 et)){z:Value}(m:(zeroValue et).run Tryz.prog w=.ok z w)(k:Int)(c:Bool):(cE l k=none->(Instr.lookup mt (.map (some mb)) (.int .i64 k) c).run Tryz.prog w=.ok (if c then .tuple #[z,.bool false]else z) w)/\ ∀b,cE l k=some b->(Instr.lookup mt (.map (some mb)) (.int .i64 k) c).run Tryz.prog w=.ok (if c then .tuple #[f b,.bool true]else f b) w:=by
 obtain⟨es,n,e,i,_⟩:=h;have d:=lZ (w:=w) k i;refine⟨λa=>?_,λb a=>?_⟩
 ·rw[wI a]at d;simp[Instr.lookup,bV g,jS e,kh,d,Result.andThen,m]
 ·obtain⟨o,j⟩:=IL a;rw[j]at d;simp[Instr.lookup,bV g,jS e,kh,d,Result.andThen,a]
theorem qk.put(m:qk f w mb l)(o:Tryz.prog.underlying mt=some (.map 3 et)){k:Int}(i:cE l k=none)(b:α):∃w',(Instr.mapUpdate mt (.map (some mb)) (.int .i64 k) (f b)).run Tryz.prog w=.ok () w'/\qk f w' mb (l++ [(k,b)])/\bf (λq=>q=mb) w w'/\w'.heap.size=w.heap.size:=by
 obtain⟨es,u,a,e,n⟩:=m;have h:=lZ (w:=w) k e;rw[wI i]at h;refine⟨_,by simp[Instr.mapUpdate,bV o,jS a,kh,h,MapKept.run_setObj_map _ a,Result.andThen];rfl,⟨_,_,(heap_set a).1,?_,stamped_push n λg s j=>?_⟩,?_,?_⟩
 ·simp[e]
 ·have t:(g.key,g.val)∈l.map λc=>(Value.int .i64 c.1,f c.2):=e▸cC.2 ⟨g,s,rfl⟩;obtain⟨c,p,d⟩:=cC.1 t;rw[j]at d;have:=nS.1 (wI i) c p;simp at d;simp[d.1]at this
 ·exact⟨rfl,rfl,rfl,by simp,λq _ r=>(heap_set a).2 q r⟩
 ·simp
theorem yJ{α a:Type}(f:α->a)(l:List α)(i:Nat):(l.map f).eraseIdx i=(l.eraseIdx i).map f:=by
 simp[qY,List.map_take,List.map_drop]
theorem qk.del(m:qk f w mb l)(j:Tryz.prog.underlying mt=some (.map 3 et))(k:Int):∃w',(∀ty,(Builtin.delete_ #[mt,3] ty #[.map (some mb),.int .i64 k]).run Tryz.prog w=.ok (.tuple #[]) w')/\qk f w' mb (l.eraseP λp=>p.1==k)/\bf (λq=>q=mb) w w'/\w'.heap.size=w.heap.size:=by
 obtain⟨es,h,a,b,i⟩:=m;have c:=lZ (w:=w) k b;cases e:l.findIdx? (λp=>p.1==k)with
 | none=>
  rw[e]at c;refine⟨{w with heap:=w.heap.setIfInBounds mb (.map es h)},λty=>by simp[Builtin.delete_,bV j,jS a,kh,c,MapKept.run_setObj_map _ a,Result.andThen],⟨_,_,(heap_set a).1,?_,i⟩,?_,?_⟩
  ·rw[List.eraseP_of_forall_not λp r=>by have:=nS.1 e p r;rw[this];decide];exact b
  ·exact⟨rfl,rfl,rfl,by simp,λq _ d=>(heap_set a).2 q d⟩
  ·simp
 | some g=>
  rw[e]at c;refine⟨{w with heap:=w.heap.setIfInBounds mb (.map (es.eraseIdxIfInBounds g) h)},λty=>by simp[Builtin.delete_,bV j,jS a,kh,c,MapKept.run_setObj_map _ a,Result.andThen],⟨_,_,(heap_set a).1,?_,stamped_erase i g⟩,?_,?_⟩
  ·have o:g<es.size:=by
     have s:=(List.findIdx?_eq_some_iff_getElem.1 e).1;have n:=congrArg List.length b;simp at n;omega
   rw[List.eraseP_eq_eraseIdx,e];simp only[Array.eraseIdxIfInBounds,o,dite_true,Array.toList_eraseIdx];rw[<-yJ,<-yJ,b]
  ·exact⟨rfl,rfl,rfl,by simp,λq _ d=>(heap_set a).2 q d⟩
  ·simp
theorem qk.len(a:qk f w mb l)(e:Tryz.prog.underlying mt=some (.map 3 et))(ty:TypeId):(Builtin.len_ #[mt] ty #[.map (some mb)]).run Tryz.prog w=.ok (.int .i64 l.length) w:=by
 obtain⟨es,g,b,c,_⟩:=a;have d:es.size=l.length:=by
  have:=congrArg List.length c;simpa using this
 simp[Builtin.len_,bV e,jS b,Result.andThen,d];unfold goInt
 go_num
theorem qk.kept{w':World}(b:qk f w mb l)(e:w'.heap[mb]?=w.heap[mb]?):qk f w' mb l:=by
 obtain⟨es,a,c,d⟩:=b;exact⟨es,a,e.trans c,d⟩
theorem qk.new(w:World):qk f (w.alloc (.map #[] 0)) w.heap.size []:=⟨#[],0,ax _ _,rfl,stamped_empty 0⟩
end
abbrev IM(w:World)(a:Nat)(l:List (Int×Nat)):Prop:=qk xI w a l
theorem IM.look{w:World}{a:Nat}{l:List (Int×Nat)}(d:IM w a l)(k:Int)(c:Bool):(cE l k=none->(Instr.lookup 64 (.map (some a)) (.int .i64 k) c).run Tryz.prog w=.ok (if c then .tuple #[.pointer none,.bool false]else .pointer none) w)/\ ∀b,cE l k=some b->(Instr.lookup 64 (.map (some a)) (.int .i64 k) c).run Tryz.prog w=.ok (if c then .tuple #[xI b,.bool true]else xI b) w:=
 qk.look d Tryz.underlying64 (by kernel_rfl) k c
theorem AX(w:World)(k:Int)(c:Bool):(Instr.lookup 64 (.map none) (.int .i64 k) c).run Tryz.prog w=.ok (if c then .tuple #[.pointer none,.bool false]else .pointer none) w:=by
 have b:=Tryz.underlying64;have d:(zeroValue 65).run Tryz.prog w=.ok (.pointer none) w:=by kernel_rfl
 have a:=lZ (f:=xI) (w:=w) (es:= #[]) (l:=[]) k rfl;simp[Instr.lookup,bV b,kh,a,Result.andThen,d]
end Go.Proofs.YtnidfceinoiboaaGreat
