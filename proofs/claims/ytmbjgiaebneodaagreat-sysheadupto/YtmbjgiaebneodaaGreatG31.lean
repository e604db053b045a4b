/- What is proved here: plain facts and contracts that the claimed theorem stands on. No condition but those that each names. -/
import Derived.Test.YtmbjgiaebneodaaGreatG30
import Derived.Test.YtmbjgiaebneodaaGreatG29
import Derived.Deep.DeepAppendWide
import Derived.MapKept
namespace Go.Proofs.YtmbjgiaebneodaaGreat
open Go.RowKit Go.Maps
open Go.RowKit
open Go.MapKept
set_option maxRecDepth 100000
set_option maxHeartbeats 4000000
variable {base n:Nat} {bp:BL} {mo:Option Nat} {g:Int×Int->Bool} {w:World}
def JB(base:Nat)(bp:BL)(mo:Option Nat)(n:Nat)(g:Int×Int->Bool)(x:Int)(j:Nat)(a:Option Addr)(L c:Nat)(w W:World):Prop:=
 (cT g x j).length=L/\iQ w.heap.size (.slice a L c) (cT g x j) W/\ek base bp mo n (wo g (x::(cT g x j).take j)) W/\bi (λb=>mo=some b) w W
def JH(base:Nat)(bp:BL)(mo:Option Nat)(n:Nat)(g:Int×Int->Bool)(x:Int)(j:Nat)(l:List Int)(d:Option Addr)(e:Nat)(q:Nat)(a:Option Addr)(L c:Nat)(w W:World):Prop:=
 (fh g x j l q).length=L/\iQ w.heap.size (.slice a L c) (fh g x j l q) W/\iQ w.heap.size (.slice d l.length e) l W/\(∀b,(Value.slice a L c).ownBlock=some b->(Value.slice d l.length e).ownBlock≠some b)/\ek base bp mo n (wo g (x::(cT g x (j+1)).take (j+1))) W/\bi (λb=>mo=some b) w W
theorem rk{v:Value}{a:Option Addr}{L c:Nat}{l:List Int}(b:EF v l w)(e:v=.slice a L c)(i:Nat)(k:Int)(h:l[i]?=some k):∃g o,a=some ⟨g,o,none⟩/\w.cell? ⟨g,o+i,none⟩=some (.int .i64 k):=by
 obtain⟨j,m,d,b⟩:=b.cells;rw[e]at d;injection d with f n p;subst f;exact b i k h
theorem JH.more{x:Int}{j:Nat}{l:List Int}{u:Option Addr}{v q:Nat}{a:Option Addr}{L c:Nat}{W:World}(A:JH base bp mo n g x j l u v q a L c w W)(H:l.Nodup)(K:∀b,Hl bp mo b->b<w.heap.size){y:Int}(M:l[q]?=some y)(I:(fh g x j l q).contains y=false){o:Obj}{g5 k:Nat}{f:World}(J:f.ownsRow w.heap.size 3 1 (.slice (some ⟨g5,0,none⟩) (L+1) k) (L+1) (iS (fh g x j l q)++ [.int .i64 y]))(G:(W.alloc o).grownBy f (Value.slice a L c).ownBlock)(F:(Value.slice a L c).ownBlock=some g5\/g5=(W.alloc o).heap.size):JH base bp mo n g x j l u v (q+1) (some ⟨g5,0,none⟩) (L+1) k w f:=by
 obtain⟨m,B,p,r,C,D⟩:=A;have d:fh g x j l (q+1)=fh g x j l q++ [y]:=by
  rw[oR H M,I];rfl
 have E:Below W.heap.size W (W.alloc o):=(ah _ _).alloc (ag _) _;have i:bi (λb=>(Value.slice a L c).ownBlock=some b) W f:=bi.trans (aC E _) (dR G) λb _ d=>d;have t:∀b,(Value.slice a L c).ownBlock=some b->w.heap.size<=b:=λb e=>(B.lt b e).1;refine⟨by rw[d,aW,m];rfl,?_,aT p i λb e d=>r b d e,?_,C.kee i λb e d=>?_,bi.trans D i λb e d=>?_⟩
 ·unfold iQ;rw[d,kp,aW,m];exact J
 ·intro b e s;have z:g5=b:=aq e;subst z;rcases F with h|h
  ·exact r _ h s
  ·have:=(p.lt _ s).2;simp at h;omega
 ·have:=K b e;have:=t b d;omega
 ·have:=t b d;omega
theorem CJ(base:Nat)(bp:BL)(mo:Option Nat)(n:Nat)(g:Int×Int->Bool)(x:Int)(w:World)(u:Hid (xq g))(Z:Hid (∀b,Hl bp mo b->b<w.heap.size))(X:Hid (Calls Tryz.prog 85 #[.pointer (some ⟨bp.b,bp.o,none⟩),.int .i64 x] w λe w'=>∃a L c,e=.returned (.slice a L c)/\Hid (JB base bp mo n g x 0 a L c w w'))):Calls Tryz.prog 60 #[.pointer (some ⟨bp.b,bp.o,none⟩),.int .i64 x,.bool false] w λe w'=>∃v,e=.returned v/\Hid (iQ w.heap.size v (rm g x) w'/\ek base bp mo n (wo g (x::rm g x)) w'/\bi (λb=>mo=some b) w w'):=by
 obtain⟨B,ak,am,an,ao⟩:=bN Cd;have F:Hid (Tryz.prog.info? 3=some B/\B.zero=some (.int .i64 0)/\B.size=1/\B.bytes=8):=⟨ak,am,an,ao⟩;clear ak am an ao;go_enter Tryz.func60,Tryz.ntmps60;go_wp2_with fail;refine X.out.mono ?_;rintro e a8 ⟨a,L,c,rfl,M⟩;go_wp2_with fail;go_loopw [7,8] (λv q wr=>∃(d:Nat)(a:Option Addr)(L c:Nat),v=.slice a L c/\q=.int .i64 d/\d<=99/\L<=99/\Hid (JB base bp mo n g x d a L c w wr)) (λ_ q _=>100-(intOf q).toNat)
 case atStart=>exact⟨0,a,L,c,rfl,rfl,by omega,by have m:=(gU u.out x 0).le;have p:=M.out.1;omega,M.out⟩
 case round=>
  clear M X;obtain⟨d,a,L,c,rfl,rfl,a1,I,h⟩:=hrel;by_cases aL:d<L
  ·obtain⟨r,J⟩:∃r,(cT g x d)[d]?=some r:=⟨(cT g x d)[d]'(by rw[h.out.1];exact aL),az _⟩;obtain⟨ad,o,rfl,aE⟩:=rk h.out.2.1.row rfl d r J;have H:=ai J;have aA:Hid (cY r):=by
    have:=(gU u.out x d).rng r (ax J);unfold Hid cY;omega
   clear J;have a4:(0:Int)<=(d:Int):=by omega
   have a5:(d:Int)<(L:Int):=by omega
   have Y:=ai (qj h.out.2.2.1 (u.out.wo _) aA.out);go_wp2_with fail;refine Y.out.mono ?_;rintro e U ⟨aV,rfl,G⟩;obtain⟨l,z⟩:∃l,l=oW (wo g (x::(cT g x d).take d)) r:=⟨_,rfl⟩;rw[<-z]at G;obtain⟨j,k⟩:∃j,j=l.length:=⟨_,rfl⟩;have a0:j<=99:=by
    have:=tj (wo g (x::(cT g x d).take d)) r;rw[k,z];exact this
   obtain⟨K,C,aR⟩:∃K C,aV=.slice K j C:=by
    obtain⟨aB,aC,e,_⟩:=G.out.1.row;exact⟨aB,aC,by rw[k];exact e⟩
   subst aR;have N:Hid l.Nodup:=by rw[z];exact nu _ _
   have aa:Hid (∀f,(fh g x d l f).length<=99):=by rw[z];exact λf=>GI u.out H.out f
   have ap:Hid (fh g x d l j=cT g x (d+1)):=by rw[k,z];exact vo H.out
   have W:Hid (JH base bp mo n g x d l K C 0 (some ⟨ad,o,none⟩) L c w U):=by
    have aS:=Jc H.out (g:=g) (x:=x);have A:=G.out;have aQ:∀b,mo=some b->b<w.heap.size:=λb e=>Z.out b (af e);have aM:bi (λb=>mo=some b) w U:=bi.trans h.out.2.2.2 A.2.2 λ_ _ e=>e;have ab:fh g x d l 0=cT g x d:=by simp[fh,vY]
    have aP:iQ w.heap.size (.slice (some ⟨ad,o,none⟩) L c) (cT g x d) U:=aT h.out.2.1 A.2.2 λb R e=>by
     have:=(h.out.2.1.lt b R).1;have:=aQ b e;omega
    refine⟨by rw[ab];exact h.out.1,by rw[ab];exact aP,?_,?_,?_,aM⟩
    ·rw[<-k];exact pL A.1 h.out.2.2.2.size
    ·intro b R ah;rw[<-k]at ah;have:=(A.1.lt b ah).1;have:=(h.out.2.1.lt b R).2;omega
    ·rw[<-aS];exact A.2.1
   replace k:=ai k;clear G h Y aE z;go_wp2_with fail;go_loopw [7,28] (λv q wr=>∃(f:Nat)(a:Option Addr)(L c:Nat),v=.slice a L c/\q=.int .i64 f/\f<=j/\L<=99/\Hid (JH base bp mo n g x d l K C f a L c w wr)) (λ_ q _=>j-(intOf q).toNat)
   case atStart=>exact⟨0,_,L,c,rfl,rfl,aD _,I,W.out⟩
   case round=>
    clear W;obtain⟨f,a,L,c,rfl,rfl,a3,I,i⟩:=hrel;by_cases aO:f<j
    ·obtain⟨s,T⟩:∃s,l[f]?=some s:=⟨l[f]'(by rw[<-k.out];exact aO),az _⟩;obtain⟨aG,aU,rfl,aY⟩:=rk i.out.2.2.1.row rfl f s T;have Q:=ai T;clear T;have a6:(0:Int)<=(f:Int):=by omega
     have a7:(f:Int)<(j:Int):=by omega
     have V:=ai (ua i.out.2.1.row (by rw[i.out.1];omega) s);obtain⟨t,S⟩:∃t,t=(fh g x d l f).contains s:=⟨_,rfl⟩;rw[<-S]at V;have P:=ai S;clear S;go_wp2_with fail;refine V.out.mono ?_;rintro e D ⟨rfl,rfl⟩;cases t
     ·have aX:=ai (aa.out (f+1));have ar:Hid (L+1<=99):=by
       have m:=aa.out (f+1);have p:=i.out.1;rw[oR N.out Q.out,<-P.out,aW]at m;simp at m;unfold Hid;omega
      have aw:Hid (w.heap.size<=D.heap.size):=i.out.2.2.2.2.2.size;have av:=ai i.out.2.1;have au:=ai i.out.1
      go_wp2_with (first
       | (at_builtin;refine wpList_append_lies _ rfl _ _ 94 rfl w.heap.size 3 B _ 1 8 Tryz.underlying94 F.out.1 F.out.2.1 F.out.2.2.1 F.out.2.2.2 rfl (by decide) (.slice a L c) L (iS (fh g x d l f)) rfl ((show D.ownsRow w.heap.size 3 1 (.slice a L c) L (iS (fh g x d l f))from by have y:=av.out;unfold iQ at y;rw[au.out]at y;exact y).alloc _) ⟨D.heap.size,0,none⟩ 1 1 [.int .i64 s] rfl rfl (World.news_of_block (cs:= #[.int .i64 s]) (t:=3) (fr:=(0,0)) (ay D _)) (by simp[Value.oneCell']) (by decide) (by unfold maxLen;omega) (by omega) (by have:=aw.out;simp;omega) _ rfl ?_;intro aZ aF a9 al aj ag aN;have O:=ai (i.out.more N.out Z.out Q.out P.out.symm al aj ag);clear al aj ag aN))
      go_roundw
      case rel=>exact⟨f+1,_,L+1,aF,rfl,by go_num,by omega,ar.out,O.out⟩
      case measure=>simp[intOf];omega
     ·have O:Hid (JH base bp mo n g x d l (some ⟨aG,aU,none⟩) C (f+1) a L c w D):=by
        have y:=i.out;unfold JH at y ⊢;have e:fh g x d l (f+1)=fh g x d l f:=by
         rw[oR N.out Q.out,<-P.out];simp
        rw[e];exact y
      go_wp2_with fail;go_roundw
      case rel=>exact⟨f+1,_,L,c,rfl,by go_num,by omega,I,O.out⟩
      case measure=>simp[intOf];omega
    ·obtain rfl:f=j:=by omega
     have E:Hid (JB base bp mo n g x (d+1) a L c w wr):=by
      obtain⟨m,p,_,_,aI,aJ⟩:=i.out;rw[ap.out]at m p;exact⟨m,p,aI,aJ⟩
     have aq:Hid (d+1<=99):=by
      have:=(gU u.out x d).le;have:=(aK.1 H.out).1;unfold Hid;omega
     go_wp2_with fail;go_roundw
     case rel=>exact⟨d+1,a,L,c,rfl,by go_num,aq.out,I,E.out⟩
     case measure=>simp[intOf];omega
  ·have E:Hid (cT g x d=rm g x):=Em u.out (by rw[h.out.1];omega);have a2:¬(d:Int)<(L:Int):=by omega
   go_wp2_with fail
   go_ret
   obtain⟨m,p,ae,aH⟩:=h.out;rw[bk (by omega),E.out]at ae;rw[E.out]at p;exact⟨_,rfl,p,ae,aH⟩
theorem xC(bp:BL)(x:Int)(w:World)(R:World->Prop)(c:Hid (Calls Tryz.prog 85 #[.pointer (some ⟨bp.b,bp.o,none⟩),.int .i64 x] w λe w'=>∃v,e=.returned v/\Hid (R w'))):Calls Tryz.prog 60 #[.pointer (some ⟨bp.b,bp.o,none⟩),.int .i64 x,.bool true] w λe w'=>e=.returned (.slice none 0 0)/\R w':=by
 go_enter Tryz.func60,Tryz.ntmps60;go_wp2_with fail;refine c.out.mono ?_;rintro e d ⟨v,rfl,a⟩;go_wp2_with fail
 go_ret
 exact⟨rfl,a.out⟩
def rA(g:Int×Int->Bool)(x:Int)(a:Bool):List Int:=if a then []else rm g x
theorem ER(f:ek base bp mo n g w)(h:xq g){x:Int}(i:cY x)(d:Bool):Calls Tryz.prog 60 #[.pointer (some ⟨bp.b,bp.o,none⟩),.int .i64 x,.bool d] w λe w'=>∃v,e=.returned v/\Hid (iQ w.heap.size v (rA g x d) w'/\ek base bp mo n (wo g (x::rA g x d)) w'/\bi (λb=>mo=some b) w w'):=by
 cases d
 ·rw[show rA g x false=rm g x from if_neg (by decide)];refine CJ base bp mo n g x w h (λb m=>(f.lt b m).2) ?_;refine(qj f h i).mono ?_;rintro e w' ⟨v,rfl,a⟩;obtain⟨j,c,e,_⟩:=a.out.1.row;subst e;exact⟨j,_,c,rfl,rfl,a.out.1,a.out.2.1,a.out.2.2⟩
 ·refine(xC bp x w (λw'=>ek base bp mo n (wo g [x]) w'/\bi (λb=>mo=some b) w w') ?_).mono ?_
  ·refine(qj f h i).mono ?_;rintro e w' ⟨v,rfl,a⟩;exact⟨v,rfl,a.out.2⟩
  ·rw[show rA g x true=[]from if_pos rfl];rintro e w' ⟨rfl,k,l⟩;exact⟨_,rfl,iQ.nil _ _,k,l⟩
def pr:ByteArray:=⟨#[115,112,97,119,110]⟩
def Jm:ByteArray:=⟨#[101,110,100]⟩
def jM:ByteArray:=⟨#[116,97,107,101]⟩
def vS:ByteArray:=⟨#[115,101,110,100]⟩
def mA:ByteArray:=⟨#[108,111,115,116]⟩
def Ha:Tc:=((0,0,⟨#[]⟩),(none,0),[])
structure Sy where
 last:Int
 ps:List (Int×ByteArray×Tc×List Tc)
 ways:Int×Int->List Tc
 bonds:Int×Int->Bool
 evs:List (ByteArray×Int×Int×Tc)
def Sy.get(s:Sy)(k:Int):Option (ByteArray×Tc×List Tc):=(s.ps.find? λp=>p.1==k).map (·.2)
def Sy.put(s:Sy)(k:Int)(v:ByteArray×Tc×List Tc):Sy:={s with ps:=s.ps.map λp=>if p.1=k then (k,v)else p}
def Sy.tell(s:Sy)(wt:ByteArray)(a b:Int)(t:Tc):Sy:={s with evs:=s.evs++ [(wt,a,b,t)]}
def Sy.add(s:Sy)(a:Int)(nm:ByteArray)(cs:Tc):Sy:=Sy.tell {s with last:=s.last+1,ps:=s.ps++ [(s.last+1,nm,cs,[])]} pr a (s.last+1) cs
def Sy.drop(s:Sy)(x how:Int):Sy:=Sy.tell {s with ps:=s.ps.eraseP λp=>p.1==x} Jm x how Ha
def Sy.fin(s:Sy)(x how:Int):Sy:=(rA s.bonds x (how==1)).foldl (λs y=>s.drop y 4) {s.drop x how with bonds:=wo s.bonds (x::rA s.bonds x (how==1))}
def Sy.deliver(s:Sy)(room a b:Int)(t:Tc):Sy:=match s.get b with
 | none=>s
 | some (nm,cs,cms)=>if jL 13 t room cs cms=2 then s.tell mA a b t else if jL 13 t room cs cms=6 then s.fin b 3 else if jL 13 t room cs cms=0 then s.put b (nm,cs,cms++ [t])else s
def Sy.send(s:Sy)(a b:Int)(t:Tc):Sy:=if kv 12 a b t (s.ways (a,b)).length=0 then Sy.tell {s with ways:=fZ s.ways (a,b) (s.ways (a,b)++ [t])} vS a b t else s.tell mA a b t
def Sy.link(s:Sy)(a b:Int):Sy:=if (s.get b).isSome then {s with bonds:=if s9 a b=0 then fZ s.bonds (gR a b) true else s.bonds}else s
def Sy.may(s:Sy)(n:Nat):Bool:=decide ((s.ps.length:Int)+n<=12) && decide (s.last+n<=90)
section
variable (n:Nat) (prog:List (Bh (n+1))) (room:Int)
def mF(nm:ByteArray):Bool:=(fY (n+1) nm prog).isSome
def Sy.made(s:Sy)(l:List (Int×ByteArray×Tc)):Bool:=s.may l.length && l.all λx=>mF n prog x.2.1 && fu 13 x.2.2 room x.2.1==0
def Sy.follow(s:Sy)(a:Int)(c:Tk):Sy:=
 let s:=c.spawns.foldl (λs b=>s.add a b.2.1 b.2.2) s
 let s:=c.sends.foldl (λs b=>s.send a b.1 b.2) s
 let s:=c.links.foldl (λs b=>s.link a b) s
 if c.fate=1 then s.fin a 1 else s
def Sy.run(s:Sy)(a:Int):Sy×Int:=match s.get a with
 | none=>(s,4)
 | some (nm,cs,cms)=>if qF n room prog nm a (s.last+1) cs cms=0 then match mQ room prog nm a (s.last+1) cs cms with
     | none=>(s,0)
     | some b=>
      let s:=(s.put a (nm,b.state,b.mail)).tell jM a 0 b.message
      (if b.fate=2\/b.fate=3 then s.fin a b.fate else if s.made n prog room b.spawns=false then s.fin a 2 else s.follow a b,0)
  else (s,qF n room prog nm a (s.last+1) cs cms)
def Sy.arrive(s:Sy)(a b:Int):Sy×Int:=match s.ways (a,b)with
 | []=>(s,4)
 | t::l=>
  let s:={s with ways:=fZ s.ways (a,b) l}
  (if (s.get b).isSome then s.deliver room a b t else s.tell mA a b t,0)
def Sy.inject(s:Sy)(a:Int)(k:Nat)(x:Tm k):Sy×Int:=if (s.get a).isSome=false then (s,4)else if bv k x≠0 then (s,bv k x)else if aF k x=false then (s,5)else (s.deliver room 0 a (cn k x),0)
def Sy.do(s:Sy)(c a b:Int)(k:Nat)(x:Tm k):Sy×Int:=if c=1 then s.run n prog room a else if c=2 then s.arrive room a b else if c=3 then s.inject room a k x else (s,1)
def Sy.start(s:Sy)(nm:ByteArray)(k:Nat)(x:Tm k):Sy×Int:=if s.may 1=false then (s,2)else if mF n prog nm=false then (s,4)else if fu k x room nm≠0 then (s,fu k x room nm)else (s.add 0 nm (cn k x),0)
end
def Sy.more(s a:Sy):Prop:=∃l,a.evs=s.evs++l
theorem Sy.more.refl(s:Sy):s.more s:=⟨[],by simp⟩
theorem Sy.more.trans{s t u:Sy}(a:s.more t)(k:t.more u):s.more u:=by
 obtain⟨l,a⟩:=a;obtain⟨b,k⟩:=k;exact⟨l++b,by rw[k,a,gY]⟩
theorem kP{a:Type}(f:Sy->a->Sy)(b:∀(s:Sy)(x:a),s.more (f s x)):(l:List a)->(s:Sy)->s.more (l.foldl f s)
 | [],s=>Sy.more.refl s
 | x::l,s=>(b s x).trans (kP f b l (f s x))
theorem uM(s:Sy)(wt:ByteArray)(a b:Int)(t:Tc):s.more (s.tell wt a b t):=⟨_,rfl⟩
theorem pC(s:Sy)(x how:Int):s.more (s.fin x how):=by
 have a:s.more {s.drop x how with bonds:=wo s.bonds (x::rA s.bonds x (how==1))}:=⟨_,rfl⟩;exact a.trans (kP _ (λs b=>⟨_,rfl⟩) _ _)
theorem pB(s:Sy)(room a b:Int)(t:Tc):s.more (s.deliver room a b t):=by
 unfold Sy.deliver;split
 ·exact Sy.more.refl s
 ·split
  ·exact uM _ _ _ _ _
  ·split
   ·exact pC _ _ _
   ·split
    ·exact⟨[],by simp[Sy.put]⟩
    ·exact Sy.more.refl s
theorem Dv(s:Sy)(a b:Int)(t:Tc):s.more (s.send a b t):=by
 unfold Sy.send;split
 ·exact⟨_,rfl⟩
 ·exact⟨_,rfl⟩
theorem Du(s:Sy)(a b:Int):s.more (s.link a b):=by
 unfold Sy.link;split
 ·exact⟨[],by simp⟩
 ·exact Sy.more.refl s
theorem yD(s:Sy)(a:Int)(c:Tk):s.more (s.follow a c):=by
 have e:=kP (λ(s:Sy)(b:Int×ByteArray×Tc)=>s.add a b.2.1 b.2.2) (λs b=>⟨_,rfl⟩) c.spawns s;have f:=e.trans (kP (λ(s:Sy)(b:Int×Tc)=>s.send a b.1 b.2) (λs b=>Dv s a b.1 b.2) c.sends _);have d:=f.trans (kP (λ(s:Sy)(b:Int)=>s.link a b) (λs b=>Du s a b) c.links _);unfold Sy.follow;simp only;split
 ·exact d.trans (pC _ _ _)
 ·exact d
theorem Iv(n:Nat)(prog:List (Bh (n+1)))(room:Int)(s:Sy)(f a b:Int)(k:Nat)(x:Tm k):s.more (s.do n prog room f a b k x).1:=by
 unfold Sy.do;split
 ·unfold Sy.run;split
  ·exact Sy.more.refl s
  ·split
   ·split
    ·exact Sy.more.refl s
    ·have c:∀d (e:ByteArray×Tc×List Tc) t,s.more ((s.put a e).tell d a 0 t):=λd e t=>⟨_,rfl⟩;simp only;split
     ·exact(c _ _ _).trans (pC _ _ _)
     ·split
      ·exact(c _ _ _).trans (pC _ _ _)
      ·exact(c _ _ _).trans (yD _ _ _)
   ·exact Sy.more.refl s
 ·split
  ·unfold Sy.arrive;split
   ·exact Sy.more.refl s
   ·rename_i t l _;have c:s.more {s with ways:=fZ s.ways (a,b) l}:=⟨[],by simp⟩;simp only;split
    ·exact c.trans (pB _ _ _ _ _)
    ·exact c.trans (uM _ _ _ _ _)
  ·split
   ·unfold Sy.inject;split
    ·exact Sy.more.refl s
    ·split
     ·exact Sy.more.refl s
     ·split
      ·exact Sy.more.refl s
      ·exact pB _ _ _ _ _
   ·exact Sy.more.refl s
variable {P:Program} {md:Region.Mode} {ops:Array Oper} {Q:Exit->Act->World->Prop} {S:World->Prop} {X:Nat}
theorem G4(i:Nat){d:Oper}{v:Value}{f:Nat}{e:Array Bool}{a:Act}{w:World}(l:ops[i]?=some d)(b:(Region.noSelect ops && Region.free md ops e i && (Region.ready md ops e).contains i && xf md ops X i)=true)(h:∀c a w,Q (.panic c) (a.put d.dst v) w->Q (.panic c) a w)(k:d.guard=none)(m:∀w,S w->(execOp a.eval d).run P w=.ok (.value v) w)(j:S w)(g:iY P md ops Q S X f (e.setIfInBounds i true) (a.put d.dst v) w):iY P md ops Q S X (f+1) e a w:=by
 simp only[aB]at b;exact aL l b.1.1.1 b.1.1.2 b.1.2 b.2 h k m j g
theorem Fw:(Tryz.prog.info? 58).map (λi=>(i.zero,i.size,i.bytes))=some (some (.agg #[.string ⟨#[]⟩,.int .i64 0,.int .i64 0,.int .i64 0,.int .i64 0,.string ⟨#[]⟩,.slice none 0 0]),7,88):=by kernel_rfl
def Jj(base:Nat)(wt:ByteArray)(a b:Int)(f:Option Addr)(L h:Nat)(xs:List Value)(R:World->World->Int->Int->ByteArray->Option Addr->Nat->Nat->Prop)(w i:World)(g c:Nat):Prop:=
 ∃d e y0 y1 y2 ya yl yc,Below w.heap.size w d/\Below d.heap.size d e/\R d e y0 y1 y2 ya yl yc/\bi (λj=>(Value.slice f L h).ownBlock=some j) e i/\i.ownsRow base 58 7 (.slice (some ⟨g,0,none⟩) (L+1) c) (L+1) (xs++ [.string wt,.int .i64 a,.int .i64 b,.int .i64 y0,.int .i64 y1,.string y2,.slice ya yl yc])/\((Value.slice f L h).ownBlock=some g\/e.heap.size<=g)
theorem Bx(base m:Nat)(wt:ByteArray)(a b A B:Int)(C:ByteArray)(xa:Option Addr)(D xc:Nat)(n:Option Addr)(L q:Nat)(xs:List Value)(R:World->World->Int->Int->ByteArray->Option Addr->Nat->Nat->Prop)(w:World)(aV:L<=100000)(X:m<w.heap.size)(aW:base<=w.heap.size)(Z:Hid (w.cell? ⟨m,6,none⟩=some (.slice n L q)/\w.frozen? ⟨m,6,none⟩=false))(ak:Hid (w.ownsRow base 58 7 (.slice n L q) L xs))(ad:Hid ((Value.slice n L q).ownBlock≠some m))(aa:Hid (∀W,Below w.heap.size w W->Calls Tryz.prog 45 #[.agg #[.int .i64 A,.int .i64 B,.string C,.slice xa D xc]] W λe w'=>∃y0 y1 y2 ya yl yc,e=.returned (.agg #[.int .i64 y0,.int .i64 y1,.string y2,.slice ya yl yc])/\Hid (Below W.heap.size W w'/\R W w' y0 y1 y2 ya yl yc))):Calls Tryz.prog 35 #[.pointer (some ⟨m,0,none⟩),.string wt,.int .i64 a,.int .i64 b,.agg #[.int .i64 A,.int .i64 B,.string C,.slice xa D xc]] w λe w'=>e=.returned (.tuple #[])/\Hid (∃g c r,w'=r.setCell ⟨m,6,none⟩ (.slice (some ⟨g,0,none⟩) (L+1) c)/\Jj base wt a b n L q xs R w r g c):=by
 obtain⟨aJ,aq,aw,ax,az⟩:=bN Fw;have M:=ai (⟨aq,aw,ax,az⟩:_/\_/\_/\_);clear aq aw ax az;go_enter Tryz.func35,Tryz.ntmps35;go_upto_region 1 with fail;generalize aA:w.alloc _=s;have y:Hid (Below w.heap.size w s/\s.heap[w.heap.size]?=some (.cells #[.int .i64 A,.int .i64 B,.string C,.slice xa D xc] 30)):=by
  rw[<-aA];exact⟨(ah _ _).alloc (ag _) _,ay _ _⟩
 clear aA;obtain⟨h,T⟩:∃h,h=w.heap.size:=⟨_,rfl⟩;rw[<-T];rw[<-T]at y;have O:=ai T;clear T;have N:Hid (∀W:World,Below s.heap.size s W->W.cell? ⟨m,6,none⟩=some (.slice n L q)/\W.cell? ⟨h,0,none⟩=some (.int .i64 A)/\W.cell? ⟨h,1,none⟩=some (.int .i64 B)/\W.cell? ⟨h,2,none⟩=some (.string C)/\W.cell? ⟨h,3,none⟩=some (.slice xa D xc)):=λW d=>by
  have Q:=(d.block h (aE.1 y.out.2).1).trans y.out.2;have aF:=(O.out▸y.out.1:Below w.heap.size w s).trans (d.mono (O.out▸y.out.1:Below w.heap.size w s).size);exact⟨(aF.cell (p:=⟨m,6,none⟩) X).trans Z.out.1,ab Q 0,ab Q 1,ab Q 2,ab Q 3⟩
 have G:Hid (Below s.heap.size s s.drew):=(ah _ _).drew;have z:Hid (Below w.heap.size w s):=by
  have d:=y.out.1;rw[O.out]at d;exact d
 have u:=N.out _ G.out;refine wp_region_noPanic ?_;refine iD (λW=>W.cell? ⟨m,6,none⟩=some (.slice n L q)/\W.cell? ⟨h,0,none⟩=some (.int .i64 A)/\W.cell? ⟨h,1,none⟩=some (.int .i64 B)/\W.cell? ⟨h,2,none⟩=some (.string C)/\W.cell? ⟨h,3,none⟩=some (.slice xa D xc)) 15 (by kernel_rfl) ?_
 try simp only[fi]
 refine G4 0 (v:= ?_) rfl (by kernel_rfl) (λ_ _ _ d=>d) rfl ?_ u ?_;rotate_left
 ·intro w' f
  try dsimp only at f
  go_simp
  try with_reducible rfl
 try simp only[Act.put,bM]
 refine G4 1 (v:= ?_) rfl (by kernel_rfl) (λ_ _ _ d=>d) rfl ?_ u ?_;rotate_left
 ·intro w' f
  try dsimp only at f
  go_simp
  try with_reducible rfl
 try simp only[Act.put]
 refine G4 2 (v:= ?_) rfl (by kernel_rfl) (λ_ _ _ d=>d) rfl ?_ u ?_;rotate_left
 ·intro w' f
  try dsimp only at f
  go_simp
  try with_reducible rfl
 try simp only[Act.put]
 refine G4 3 (v:= ?_) rfl (by kernel_rfl) (λ_ _ _ d=>d) rfl ?_ u ?_;rotate_left
 ·intro w' f
  try dsimp only at f
  go_simp
  try with_reducible rfl
 try simp only[Act.put]
 refine G4 4 (v:= ?_) rfl (by kernel_rfl) (λ_ _ _ d=>d) rfl ?_ u ?_;rotate_left
 ·intro w' f
  try dsimp only at f
  go_simp
  try with_reducible rfl
 try simp only[Act.put]
 refine G4 5 (v:= ?_) rfl (by kernel_rfl) (λ_ _ _ d=>d) rfl ?_ u ?_;rotate_left
 ·intro w' f
  try dsimp only at f
  go_simp
  try with_reducible rfl
 try simp only[Act.put]
 refine G4 6 (v:= ?_) rfl (by kernel_rfl) (λ_ _ _ d=>d) rfl ?_ u ?_;rotate_left
 ·intro w' f
  try dsimp only at f
  go_simp
  try with_reducible rfl
 try simp only[Act.put]
 refine G4 7 (v:= ?_) rfl (by kernel_rfl) (λ_ _ _ d=>d) rfl ?_ u ?_;rotate_left
 ·intro w' f
  try dsimp only at f
  go_simp
  try with_reducible rfl
 try simp only[Act.put]
 refine G4 8 (v:= ?_) rfl (by kernel_rfl) (λ_ _ _ d=>d) rfl ?_ u ?_;rotate_left
 ·intro w' f
  try dsimp only at f
  go_simp
  try with_reducible rfl
 try simp only[Act.put]
 refine cJ (i:=9) (by kernel_rfl) rfl rfl (λx l=>?_) (by decide)
 go_simp
 refine(aa.out _ (z.out.trans (G.out.mono z.out.size))).mono ?_;rintro e j ⟨y0,y1,y2,ya,yl,yc,rfl,I⟩;have E:=ai (G.out.trans (I.out.1.mono G.out.size));have S:=N.out j E.out;refine l.out _ _ (λ_=>S) (λ_=>?_);clear l x
 try simp only[Act.put,bM,cX,cW]
 refine G4 10 (v:= ?_) rfl (by kernel_rfl) (λ_ _ _ d=>d) rfl ?_ S ?_;rotate_left
 ·intro w' f
  try dsimp only at f
  go_simp
  try with_reducible rfl
 try simp only[Act.put,bM]
 have F:=ai (z.out.trans (E.out.mono z.out.size));obtain⟨o,ar⟩:∃o:Obj,o=.cells #[.string wt,.int .i64 a,.int .i64 b,.int .i64 y0,.int .i64 y1,.string y2,.slice ya yl yc] 58:=⟨_,rfl⟩;have K:Hid (Below j.heap.size j (j.alloc o)):=(ah _ _).alloc (ag _) o;have al:=ai (N.out _ (E.out.trans (K.out.mono E.out.size)));have af:Hid ((j.alloc o).ownsRow base 58 7 (.slice n L q) L xs):=aT ak.out (aC (F.out.trans (K.out.mono F.out.size)) λ_=>False) λ_ _ d=>d;have ae:Hid ((j.alloc o).heap[j.heap.size]?=some o):=ay j o;have U:Hid ((j.alloc o).heap.size=j.heap.size+1):=(show _=_ by simp);rw[ar]at K al af ae U;clear ar o;refine cJ (i:=11) (by kernel_rfl) rfl rfl (λx l=>?_) (by decide)
 go_simp
 refine l.out _ _ (λ_=>al.out) (λaD=>?_);clear l x
 try simp only[Act.put,bM,cX,cW]
 refine cJ (i:=12) (by kernel_rfl) rfl rfl (λx l=>?_) (by decide);refine wp_append_lies _ _ _ 35 rfl base 58 aJ _ 7 88 Tryz.underlying35 M.out.1 M.out.2.1 M.out.2.2.1 M.out.2.2.2 rfl (by decide) (.slice n L q) L xs rfl af.out ⟨j.heap.size,0,none⟩ 1 1 [.string wt,.int .i64 a,.int .i64 b,.int .i64 y0,.int .i64 y1,.string y2,.slice ya yl yc] rfl rfl (World.news_of_block (cs:= #[.string wt,.int .i64 a,.int .i64 b,.int .i64 y0,.int .i64 y1,.string y2,.slice ya yl yc]) (t:=58) (fr:=(0,0)) ae.out) (by simp[Value.oneCell']) (by decide) (by unfold maxLen;omega) (by omega) (by have:=U.out;have:=F.out.size;omega) _ rfl ?_;intro P am r au ap an aG;have H:Hid (bi (λaL=>(Value.slice n L q).ownBlock=some aL) j r):=bi.trans (aC K.out _) (dR ap) λ_ _ e=>e;have Y:Hid ((Value.slice n L q).ownBlock=some P\/j.heap.size<=P):=an.imp id λe=>by have:=U.out;omega
 have aj:=ai au;have J:Hid ((r.cell? ⟨m,6,none⟩=some (.slice n L q)/\r.cell? ⟨h,0,none⟩=some (.int .i64 A)/\r.cell? ⟨h,1,none⟩=some (.int .i64 B)/\r.cell? ⟨h,2,none⟩=some (.string C)/\r.cell? ⟨h,3,none⟩=some (.slice xa D xc))/\r.frozen? ⟨m,6,none⟩=false):=by
  have aH:¬(Value.slice n L q).ownBlock=some h:=λe=>by
   have:=(ak.out.lt h e).2;have:=O.out;omega
  have aI:h<j.heap.size:=by
   have:=E.out.size;have:=(aE.1 y.out.2).1;omega
  have av:m<j.heap.size:=aM X F.out.size;obtain⟨aN,aO,aP,aQ,aR⟩:=S;have k:=λaK=>H.out.cell aK aI aH;refine⟨⟨(H.out.cell 6 av ad.out).trans aN,(k 0).trans aO,(k 1).trans aP,(k 2).trans aQ,(k 3).trans aR⟩,?_⟩;have ao:=Z.out.2;unfold World.frozen? at ao ⊢;rw[H.out.block m av ad.out,F.out.block m X];exact ao
 clear au ap an aG;refine l.out _ _ (λ_=>J.out.1) (λV=>?_);clear l x
 try simp only[Act.put,bM]
 refine cJ (i:=13) (by kernel_rfl) rfl rfl (λx l=>?_) (by decide)
 go_simp
 refine l.out _ _ (λ_=>V) (λ_=>?_);clear l x
 try simp only[Act.put,bM,cX,cW]
 refine G4 14 (v:= ?_) rfl (by kernel_rfl) (λ_ _ _ d=>d) rfl ?_ V ?_;rotate_left
 ·intro w' f
  try dsimp only at f
  go_simp
  try with_reducible rfl
 try simp only[Act.put,bM]
 have aU:=J.out.2;have aS:=J.out.1.1;refine iC (by kernel_rfl) rfl rfl (by kernel_rfl) (λx l=>?_)
 go_simp
 refine l.out _ _ (NoPanic.normal ?_);clear l x
 try simp only[Act.put,bM,cX,cW]
 have aB:Hid (Jj base wt a b n L q xs R w r P am):=⟨s.drew,j,y0,y1,y2,ya,yl,yc,z.out.trans (G.out.mono z.out.size),I.out.1,I.out.2,H.out,aj.out,Y.out⟩;clear N aa J aj Y H I u V aD S;exact dO (v:=.tuple #[]) (by simp[results]) rfl ⟨rfl,P,am,r,rfl,aB.out⟩
def tY(b:Nat):Value:=.pointer (some ⟨b,0,none⟩)
def IM(w:World)(b:Nat)(l:List (Int×Nat)):Prop:=∃es a,w.heap[b]?=some (.map es a)/\es.toList.map (λe=>(e.key,e.val))=l.map λp=>(.int .i64 p.1,tY p.2)
theorem Cb(k:Int):(es:List MapEntry)->(l:List (Int×Nat))->(i:Nat)->es.map (λe=>(e.key,e.val))=l.map (λp=>(.int .i64 p.1,tY p.2))-> Instr.findNow (.int .i64) (.int .i64 k) es i=some ((l.findIdx? (λp=>p.1==k)).map λj=>(i+j,tY ((l.find? λp=>p.1==k).map (·.2) |>.getD 0)))
 | [],[],_,_=>rfl
 | [],_::_,_,h=>by simp at h
 | _::_,[],_,h=>by simp at h
 | e::es,p::l,i,h=>by
  rw[aJ,aJ,List.cons.injEq]at h;obtain⟨b,f⟩:=h;have d:e.key=.int .i64 p.1:=(Prod.mk.inj b).1;have m:e.val=tY p.2:=(Prod.mk.inj b).2;have ih:=Cb k es l (i+1) f;by_cases a:p.1=k
  ·have c:(k==p.1)=true:=by simp[a]
   simp[Instr.findNow,Instr.sameNow,d,m,a,List.findIdx?_cons]
  ·have c:(k==p.1)=false:=by simpa using λe=>a e.symm
   have g:(p.1==k)=false:=by simpa using a
   rw[Instr.findNow,d];simp only[Instr.sameNow,cR,c];rw[ih];simp only[List.findIdx?_cons,iE,g];congr 1;cases List.findIdx? (λp=>p.1==k) l with
   | none=>rfl
   | some j=>simp;omega
def dd(l:List (Int×Nat))(k:Int):Option Nat:=(l.find? λp=>p.1==k).map (·.2)
theorem lJ{w:World}{es:Array MapEntry}{l:List (Int×Nat)}(k:Int)(b:es.toList.map (λe=>(e.key,e.val))=l.map λp=>(.int .i64 p.1,tY p.2)):(Instr.findKey 3 (.int .i64 k) es.toList).run Tryz.prog w=.ok ((l.findIdx? (λp=>p.1==k)).map λj=>(j,tY ((dd l k).getD 0))) w:=by
 have c:=Tryz.underlying3;have a:=Cb k es.toList l 0 b;simp only[cQ]at a;simp[Instr.findKey,bW c,Result.andThen,a,dd]
theorem jO(w:World)(em:Bool)(k:Int):(Instr.checkKey em 10000 3 (.int .i64 k)).run Tryz.prog w=.ok () w:=by
 have a:=Tryz.underlying3;unfold Instr.checkKey;simp[bW a,Result.andThen]
theorem Cc{l:List (Int×Nat)}{k:Int}(a:dd l k=none):l.findIdx? (λp=>p.1==k)=none:=by
 unfold dd at a;rw[qN];intro p b;rw[Option.map_eq_none_iff,nG]at a;simpa using a p b
theorem Ik{l:List (Int×Nat)}{k:Int}{b:Nat}(a:dd l k=some b):∃j,l.findIdx? (λp=>p.1==k)=some j:=by
 cases e:l.findIdx? (λp=>p.1==k)with
 | some j=>exact⟨j,rfl⟩
 | none=>
  unfold dd at a;rw[qN]at e;have:l.find? (λp=>p.1==k)=none:=nG.2 λp c=>by simpa using e p c
  rw[this]at a;cases a
theorem IM.look{w:World}{e:Nat}{l:List (Int×Nat)}(h:IM w e l)(k:Int)(c:Bool):(dd l k=none->(Instr.lookup 64 (.map (some e)) (.int .i64 k) c).run Tryz.prog w=.ok (if c then .tuple #[.pointer none,.bool false]else .pointer none) w)/\ ∀b,dd l k=some b->(Instr.lookup 64 (.map (some e)) (.int .i64 k) c).run Tryz.prog w=.ok (if c then .tuple #[tY b,.bool true]else tY b) w:=by
 obtain⟨es,n,f,i⟩:=h;have g:=Tryz.underlying64;have m:(zeroValue 83).run Tryz.prog w=.ok (.pointer none) w:=by kernel_rfl
 have d:=lJ (w:=w) k i;refine⟨λa=>?_,λb a=>?_⟩
 ·rw[Cc a]at d;simp[Instr.lookup,bW g,jD f,jO,d,Result.andThen,m]
 ·obtain⟨o,j⟩:=Ik a;rw[j]at d;simp[Instr.lookup,bW g,jD f,jO,d,Result.andThen,a]
theorem AC(w:World)(k:Int)(c:Bool):(Instr.lookup 64 (.map none) (.int .i64 k) c).run Tryz.prog w=.ok (if c then .tuple #[.pointer none,.bool false]else .pointer none) w:=by
 have b:=Tryz.underlying64;have d:(zeroValue 83).run Tryz.prog w=.ok (.pointer none) w:=by kernel_rfl
 have a:=lJ (w:=w) (es:= #[]) (l:=[]) k rfl;simp[Instr.lookup,bW b,jO,a,Result.andThen,d]
theorem IM.put{w:World}{c:Nat}{l:List (Int×Nat)}(f:IM w c l){k:Int}(g:dd l k=none)(b:Nat):∃w',(Instr.mapUpdate 64 (.map (some c)) (.int .i64 k) (tY b)).run Tryz.prog w=.ok () w'/\IM w' c (l++ [(k,b)])/\bi (λq=>q=c) w w'/\w'.heap.size=w.heap.size:=by
 obtain⟨es,j,a,d⟩:=f;have h:=Tryz.underlying64;have e:=lJ (w:=w) k d;rw[Cc g]at e;refine⟨_,by simp[Instr.mapUpdate,bW h,jD a,jO,e,MapKept.run_setObj_map _ a,Result.andThen];rfl,⟨_,_,(heap_set a).1,?_⟩,?_,?_⟩
 ·simp[d]
 ·exact⟨rfl,rfl,rfl,by simp,λq _ i=>(heap_set a).2 q i⟩
 ·simp
theorem yn{a b:Type}(f:a->b)(l:List a)(i:Nat):(l.map f).eraseIdx i=(l.eraseIdx i).map f:=by
 simp[qM,List.map_take,List.map_drop]
theorem IM.del{w:World}{b:Nat}{l:List (Int×Nat)}(j:IM w b l)(k:Int):∃w',(∀ty,(Builtin.delete_ #[64,3] ty #[.map (some b),.int .i64 k]).run Tryz.prog w=.ok (.tuple #[]) w')/\IM w' b (l.eraseP λp=>p.1==k)/\bi (λq=>q=b) w w'/\w'.heap.size=w.heap.size:=by
 obtain⟨es,g,a,c⟩:=j;have h:=Tryz.underlying64;have d:=lJ (w:=w) k c;cases e:l.findIdx? (λp=>p.1==k)with
 | none=>
  rw[e]at d;refine⟨{w with heap:=w.heap.setIfInBounds b (.map es g)},λty=>by simp[Builtin.delete_,bW h,jD a,jO,d,MapKept.run_setObj_map _ a,Result.andThen],⟨_,_,(heap_set a).1,?_⟩,?_,?_⟩
  ·rw[List.eraseP_of_forall_not λp o=>by have:=qN.1 e p o;rw[this];decide];exact c
  ·exact⟨rfl,rfl,rfl,by simp,λq _ f=>(heap_set a).2 q f⟩
  ·simp
 | some i=>
  rw[e]at d;refine⟨{w with heap:=w.heap.setIfInBounds b (.map (es.eraseIdxIfInBounds i) g)},λty=>by simp[Builtin.delete_,bW h,jD a,jO,d,MapKept.run_setObj_map _ a,Result.andThen],⟨_,_,(heap_set a).1,?_⟩,?_,?_⟩
  ·have n:i<es.size:=by
     have r:=(List.findIdx?_eq_some_iff_getElem.1 e).1;have m:=congrArg List.length c;simp at m;omega
   rw[List.eraseP_eq_eraseIdx,e];simp only[Array.eraseIdxIfInBounds,n,dite_true,Array.toList_eraseIdx];rw[<-yn,<-yn,c]
  ·exact⟨rfl,rfl,rfl,by simp,λq _ f=>(heap_set a).2 q f⟩
  ·simp
theorem IM.len{w:World}{a:Nat}{l:List (Int×Nat)}(b:IM w a l)(ty:TypeId):(Builtin.len_ #[64] ty #[.map (some a)]).run Tryz.prog w=.ok (.int .i64 l.length) w:=by
 obtain⟨es,g,c,d⟩:=b;have f:=Tryz.underlying64;have e:es.size=l.length:=by
  have:=congrArg List.length d;simpa using this
 simp[Builtin.len_,bW f,jD c,Result.andThen,e];unfold goInt
 go_num
theorem IM.kept{w w':World}{a:Nat}{l:List (Int×Nat)}(c:IM w a l)(f:w'.heap[a]?=w.heap[a]?):IM w' a l:=by
 obtain⟨es,b,d,e⟩:=c;exact⟨es,b,f.trans d,e⟩
theorem IM.new(w:World):IM (w.alloc (.map #[] 0)) w.heap.size []:=⟨#[],0,ay _ _,rfl⟩
structure mg where
 lo:Nat
 b:Nat
 room:Int
 n:Nat
 prog:List (Bh (n+1))
 pa:Option Addr
 pc:Nat
structure fX where
 ow:Nat->Int
 po:Option Nat
 l:List (Int×Nat)
 wo:Option Nat
 wn:Nat
 f:Int×Int->List Tc
 sl:Int×Int->Value
 bo:Option Nat
 bn:Nat
 ev:Value
 es:List (ByteArray×Int×Int×Tc)
 k:Nat
def dI(p:mg)(s:Sy)(d:fX):Array Value:= #[.slice p.pa p.prog.length p.pc,.int .i64 p.room,.int .i64 s.last,.map d.po,.map d.wo,.map d.bo,d.ev]
def xk(p:mg)(s:Sy)(d:fX):BL:=⟨p.b,4,dI p s d,72⟩
def Jq(p:mg)(s:Sy)(d:fX):BL:=⟨p.b,5,dI p s d,72⟩
def EC(e:ByteArray×Int×Int×Tc):List Value:=[.string e.1,.int .i64 e.2.1,.int .i64 e.2.2.1,.int .i64 e.2.2.2.1.1,.int .i64 e.2.2.2.1.2.1,.string e.2.2.2.1.2.2,.slice e.2.2.2.2.1.1 e.2.2.2.2.2.length e.2.2.2.2.1.2]
def t8(t:Tc):Prop:=bv 13 t=0\/(t.1=(0,0,⟨#[]⟩)/\t.2.2=[])
structure aV (p:mg) (s:Sy) (d:fX) (w:World):Prop where
 low:∀b,d.ow b≠0->p.lo<=b/\b<w.heap.size
 box:w.heap[p.b]?=some (.cells (dI p s d) 72)
 own:d.ow p.b=-5
 pg:(fl (p.n+1) w.heap.size w p.pa p.prog/\rv (iZ (p.n+1) λb=>d.ow b=-4) (λb=>d.ow b=-4) p.pa p.prog)/\(p.prog.length<=p.pc/\p.pc<=maxLen/\lY p.n p.prog=0/\(ap (p.n+6) (cO p.n p.prog)).length<=2097152)
 pm:(d.po=none/\d.l=[])\/∃mb,d.po=some mb/\d.ow mb=-5/\mb≠p.b/\IM w mb d.l
 keys:d.l.map (·.1)=s.ps.map (·.1)/\(s.ps.map (·.1)).Nodup/\(∀q∈s.ps,1<=q.1/\q.1<=s.last)/\0<=s.last/\s.last<=90/\s.ps.length<=12
 ps:∀k b,dd d.l k=some b->∃nm cs cms,s.get k=some (nm,cs,cms)/\P1 p.lo b nm p.room cs cms (d.k+201) (λq=>d.ow q=k) w/\cms.length<=20
 wy:f9 p.lo (xk p s d) d.wo d.wn 13 d.f d.sl w/\(∀b,pW (xk p s d) d.wo d.sl b->b=p.b\/d.ow b=-1)/\(∀k,(d.f k).map (cn 13)=s.ways k)/\(∀k,(d.f k).length<=20)/\∀k,∀y∈d.f k,bv 13 y=0/\aF 13 y=true/\In w.heap.size w 13 y/\cg (λb=>d.ow b=-1/\¬pW (xk p s d) d.wo d.sl b) 13 y
 bd:ek p.lo (Jq p s d) d.bo d.bn s.bonds w/\xq s.bonds/\∀b,d.bo=some b->d.ow b=-2
 evr:w.ownsRow p.lo 58 7 d.ev d.es.length (d.es.flatMap EC)/\∀b,d.ev.ownBlock=some b->d.ow b=-3
 evt:d.es.map (λe=>(e.1,e.2.1,e.2.2.1,cn 13 e.2.2.2))=s.evs/\∀e∈d.es,(In w.heap.size w 13 e.2.2.2/\cg (λb=>d.ow b=-3/\d.ev.ownBlock≠some b) 13 e.2.2.2)/\t8 e.2.2.2
theorem eR{S D:Nat->Prop}{w w':World}(c:bi S w w')(e:∀b,D b->¬S b){n:Nat}{x:Tm n}(a:In w.heap.size w n x/\cg D n x):In w'.heap.size w' n x/\cg D n x:=
 ⟨(In.off (P:=λb=>D b/\b<w.heap.size) (λb d=>c.block b d.2 (e b d.1)) (In.offB a.2 a.1) a.1).mono c.size,a.2⟩
theorem Dc{l:List (Int×Nat)}{k:Int}{b:Nat}(a:dd l k=some b):(k,b)∈l:=by
 unfold dd at a;cases c:l.find? (λe=>e.1==k)with
 | none=>rw[c]at a;cases a
 | some e=>
  rw[c]at a;have f:=List.mem_of_find?_eq_some c;have d:=List.find?_some c;simp at a d;subst a d;exact f
theorem aV.key{p:mg}{s:Sy}{d:fX}{w:World}(a:aV p s d w){k:Int}{b:Nat}(e:dd d.l k=some b):1<=k/\k<=s.last:=by
 have c:k∈d.l.map (·.1):=dy.2 ⟨_,Dc e,rfl⟩;rw[a.keys.1]at c;obtain⟨g,f,rfl⟩:=dy.1 c;exact a.keys.2.2.1 g f
theorem f9.turn{base:Nat}{p d:BL}{mo:Option Nat}{n N:Nat}{f:Int×Int->List (Tm N)}{sl:Int×Int->Value}{w w':World}(c:f9 base p mo n N f sl w){S:Nat->Prop}(m:bi S w w')(j:∀b,pW p mo sl b->b≠p.b->¬S b)(o:d.b=p.b)(i:ru d mo w'):f9 base d mo n N f sl w':=by
 refine⟨by rw[o];exact c.1,i,?_⟩;rcases c.2.2 with a|⟨q,rfl,l⟩
 ·exact ae a
 ·refine af ⟨q,rfl,l.kee m λb e=>j b (B9 e) λa=>?_⟩;rcases e with rfl|⟨k,g,h⟩
  ·exact tV c a.symm
  ·exact xi c g (by rw[h,a])
theorem ek.turn{base:Nat}{p a:BL}{mo:Option Nat}{n:Nat}{g:Int×Int->Bool}{w w':World}(c:ek base p mo n g w){S:Nat->Prop}(i:bi S w w')(h:∀b:Nat,mo=Option.some b->¬S b)(j:a.b=p.b)(f:ru a mo w'):ek base a mo n g w':=by
 refine⟨by rw[j];exact c.1,f,?_⟩;rcases c.2.2 with e|⟨d,rfl,k⟩
 ·exact ae e
 ·exact af ⟨d,rfl,k.kee i (h d rfl)⟩
section
variable {p:mg} {s:Sy} {d:fX} {w w':World} {ow:Nat->Int} {S:Nat->Prop}
theorem aV.pgK(e:aV p s d w)(f:bi S w w')(g:∀b,d.ow b=-4->¬S b)(h:∀b,d.ow b≠0->ow b=d.ow b):fl (p.n+1) w'.heap.size w' p.pa p.prog/\rv (iZ (p.n+1) λb=>ow b=-4) (λb=>ow b=-4) p.pa p.prog:=by
 have c:=bZ (dF (p.n+1)) 2 (mW (p.n+1)) p.pa;exact⟨c.2.2.2.1 _ _ _ _ f.size (c.2.2.1 _ _ _ w' _ (λb a=>f.block b a.2 (g b a.1)) (c.2.1 _ _ _ _ e.pg.1.2 e.pg.1.1) e.pg.1.1),c.1 _ _ _ (λb a=>(h b (by rw[a];decide)).trans a) e.pg.1.2⟩
theorem aV.pmK(f:aV p s d w)(k:bi S w w')(j:∀b,d.ow b=-5->b≠p.b->¬S b)(m:∀b,d.ow b≠0->ow b=d.ow b):(d.po=none/\d.l=[])\/∃a,d.po=some a/\ow a=-5/\a≠p.b/\IM w' a d.l:=by
 rcases f.pm with g|⟨a,h,c,e,i⟩
 ·exact ae g
 ·exact af ⟨a,h,(m a (by rw[c];decide)).trans c,e,i.kept (k.block a (f.low a (by rw[c];decide)).2 (j a c e))⟩
theorem aV.psK(f:aV p s d w)(c:bi S w w'){k:Int}{b j:Nat}(o:d.k<=j)(n:∀b,d.ow b=k->¬S b)(t:∀b,d.ow b≠0->ow b=d.ow b)(r:∀b,ow b≠0->p.lo<=b/\b<w'.heap.size)(g:dd d.l k=some b):∃nm cs a,s.get k=some (nm,cs,a)/\P1 p.lo b nm p.room cs a (j+201) (λq=>ow q=k) w'/\a.length<=20:=by
 obtain⟨nm,cs,a,h,i,m⟩:=f.ps k b g;have u:=(f.key g).1;exact⟨nm,cs,a,h,(i.kept (S:=S) ⟨c.os,c.tape,c.output,c.size,c.block⟩ n).mono (λb e=>(t b (by rw[e];omega)).trans e) (Nat.add_le_add_right o 201) λb e=>r b (by rw[e];omega),m⟩
theorem aV.wyK(e:aV p s d w)(j:bi S w w')(i:∀b,d.ow b=-1->¬S b)(l:∀b,d.ow b≠0->ow b=d.ow b){q:BL}(m:q.b=p.b)(o:ru q d.wo w'):f9 p.lo q d.wo d.wn 13 d.f d.sl w'/\(∀b,pW q d.wo d.sl b->b=p.b\/ow b=-1)/\∀k,∀y∈d.f k,bv 13 y=0/\aF 13 y=true/\In w'.heap.size w' 13 y/\cg (λb=>ow b=-1/\¬pW q d.wo d.sl b) 13 y:=by
 have h:∀b,pW q d.wo d.sl b ↔ pW (xk p s d) d.wo d.sl b:=λb=>by
  unfold pW;rw[m];exact Iff.rfl
 refine⟨e.wy.1.turn j (λb c r=>?_) m o,λb c=>(e.wy.2.1 b ((h b).1 c)).imp id λa=>(l b (by rw[a];decide)).trans a,λk y t=>?_⟩
 ·rcases e.wy.2.1 b c with a|a
  ·exact absurd a r
  ·exact i b a
 ·obtain⟨y1,y2,u⟩:=e.wy.2.2.2.2 k y t;have n:=eR j (λb q=>i b q.1) u;exact⟨y1,y2,n.1,n.2.mono λb g=>⟨(l b (by rw[g.1];decide)).trans g.1,λc=>g.2 ((h b).1 c)⟩⟩
theorem aV.bdK(a:aV p s d w)(g:bi S w w')(f:∀b,d.ow b=-2->¬S b)(h:∀b,d.ow b≠0->ow b=d.ow b){q:BL}(i:q.b=p.b)(e:ru q d.bo w'):ek p.lo q d.bo d.bn s.bonds w'/\xq s.bonds/\∀b,d.bo=some b->ow b=-2:=
 ⟨a.bd.1.turn g (λb c=>f b (a.bd.2.2 b c)) i e,a.bd.2.1,λb c=>(h b (by rw[a.bd.2.2 b c];decide)).trans (a.bd.2.2 b c)⟩
theorem aV.evK(c:aV p s d w)(h:bi S w w')(f:∀b,d.ow b=-3->¬S b)(i:∀b,d.ow b≠0->ow b=d.ow b):(w'.ownsRow p.lo 58 7 d.ev d.es.length (d.es.flatMap EC)/\∀b,d.ev.ownBlock=some b->ow b=-3)/\∀e∈d.es,(In w'.heap.size w' 13 e.2.2.2/\cg (λb=>ow b=-3/\d.ev.ownBlock≠some b) 13 e.2.2.2)/\t8 e.2.2.2:=by
 refine⟨⟨aT c.evr.1 h λb a=>f b (c.evr.2 b a),λb a=>(i b (by rw[c.evr.2 b a];decide)).trans (c.evr.2 b a)⟩,λe g=>⟨?_,(c.evt.2 e g).2⟩⟩;have j:=eR h (λb a=>f b a.1) (c.evt.2 e g).1;exact⟨j.1,j.2.mono λb a=>⟨(i b (by rw[a.1];decide)).trans a.1,a.2⟩⟩
theorem oP{d:fX}{w:World}(a:w.heap[p.b]?=some (.cells (dI p s d) 72)):ru (xk p s d) d.wo w/\ru (Jq p s d) d.bo w:=by
 refine⟨⟨⟨by simp[xk,dI],by simp[xk]⟩,?_⟩,⟨⟨by simp[Jq,dI],by simp[Jq]⟩,?_⟩⟩
 ·simp[xk,dI,a]
 ·simp[Jq,dI,a]
theorem aV.kept(a:aV p s d w)(c:bi S w w')(n:∀b,S b->d.ow b=0):aV p s d w':=by
 have j:∀b,d.ow b≠0->¬S b:=λb e r=>e (n b r);have f:∀b,d.ow b≠0->d.ow b=d.ow b:=λ_ _=>rfl;have h:w'.heap[p.b]?=some (.cells (dI p s d) 72):=(c.block p.b (aE.1 a.box).1 (j p.b (by rw[a.own];decide))).trans a.box;have i:∀b,d.ow b≠0->p.lo<=b/\b<w'.heap.size:=λb e=>⟨(a.low b e).1,aM (a.low b e).2 c.size⟩;have t:∀{t:Int},t≠0->∀b,d.ow b=t->¬S b:=λo b g=>j b (by rw[g];exact o);obtain⟨y1,y2,q⟩:=a.wyK c (t (by decide)) f rfl (oP h).1;obtain⟨l,m⟩:=a.evK c (t (by decide)) f;exact⟨i,h,a.own,⟨a.pgK c (t (by decide)) f,a.pg.2⟩,a.pmK c (λb g _=>t (by decide) b g) f,a.keys,λk b e=>a.psK c (ag _) (t (by have:=(a.key e).1;omega)) f i e,⟨y1,y2,a.wy.2.2.1,a.wy.2.2.2.1,q⟩,a.bdK c (t (by decide)) f rfl (oP h).2,l,a.evt.1,m⟩
theorem aV.later(a:aV p s d w)(b:Below w.heap.size w w'):aV p s d w':=a.kept (aC b λ_=>False) λ_ q=>q.elim
end
def KA(f g:Int)(h:ByteArray)(xa:Option Addr)(i xc:Nat)(t:Tc)(w:World):Prop:=
 ∀b,Below w.heap.size w b->Calls Tryz.prog 45 #[.agg #[.int .i64 f,.int .i64 g,.string h,.slice xa i xc]] b λd c=>∃y0 y1 y2 ya yl yc,d=.returned (.agg #[.int .i64 y0,.int .i64 y1,.string y2,.slice ya yl yc])/\Hid (Below b.heap.size b c/\∃a:Tc,(a.1=(y0,y1,y2)/\a.2.1=(ya,yc)/\a.2.2.length=yl)/\(In c.heap.size c 13 a/\cg (λe=>b.heap.size<=e) 13 a)/\cn 13 a=t/\t8 a)
theorem jq{m:Nat}{x:Tm (m+1)}{w:World}(n:In w.heap.size w (m+1) x)(g:bv (m+1) x=0):KA x.1.1 x.1.2.1 x.1.2.2 x.2.1.1 x.2.2.length x.2.1.2 (cn (m+1) x) w:=λW f=>by
 have l:aA ⟨m+1,x⟩:=aI.2 (bt.1 g).1;refine(gf (m+1) x W.heap.size W ((n.below f).mono f.size) (ag _) l).mono ?_;rintro e w' ⟨y,rfl,H⟩;obtain⟨i,j,k,d⟩:=H.out;have a:bv (m+1) y=0:=(bI d).trans g;have c:aA ⟨m+1,y⟩:=aI.2 (bt.1 a).1;have b:eQ (m+1) y<13:=by have:=(bt.1 a).2.1;omega
 have h:=io 13 (m+1) y c b;refine⟨y.1.1,y.1.2.1,y.1.2.2,y.2.1.1,y.2.2.length,y.2.1.2,rfl,i,aH 13 (m+1) y,⟨rfl,rfl,by simp[aH]⟩,⟨qw 13 (m+1) y _ _ c b j,rQ 13 (m+1) y _ c b k⟩,(ge h).trans (ge d),ae ((bI h).trans a)⟩
theorem Fb(w:World):KA 0 0 ⟨#[]⟩ none 0 0 Ha w:=λW h=>by
 refine(qn 12 0 0 ⟨#[]⟩ none 0 0 [] W (by decide) λw1 c=>?_).mono ?_
 ·refine(kj none 0 w1).mono ?_;rintro e w' ⟨rfl,rfl⟩;exact⟨none,0,[],rfl,ah _ _,rfl,ag _,aD _,rfl,ae rfl⟩
 ·rintro e w' ⟨a,b,l,rfl,H⟩;obtain⟨c,d,g,f,_⟩:=H.out;obtain rfl:l=[]:=bL d;exact⟨0,0,⟨#[]⟩,a,0,b,rfl,c,((0,0,⟨#[]⟩),(a,b),[]),⟨rfl,rfl,rfl⟩,⟨⟨⟨show cY 0 by unfold cY;decide,show cY 0 by unfold cY;decide,show (0:Nat)<=maxLen from aD _,aD _,f⟩,ae rfl⟩,ae rfl⟩,rfl,af ⟨rfl,rfl⟩⟩
def Cn(d:fX)(w w':World)(t:Int)(q:Nat):Int:=if w.heap.size<=q/\q<w'.heap.size then t else d.ow q
theorem rT{p:mg}{s:Sy}{d:fX}{w w':World}{t:Int}(a:aV p s d w)(e:w.heap.size<=w'.heap.size)(c:p.lo<=w.heap.size):∀b,Cn d w w' t b≠0->p.lo<=b/\b<w'.heap.size:=λb q=>by
 unfold Cn at q;split at q
 ·omega
 ·have:=a.low b q;omega
theorem rU{p:mg}{s:Sy}{d:fX}{w w':World}{t:Int}(a:aV p s d w):∀b,d.ow b≠0->Cn d w w' t b=d.ow b:=λb q=>by
 have:=(a.low b q).2;exact if_neg (by omega)
theorem aV.lo{p:mg}{s:Sy}{d:fX}{w:World}(a:aV p s d w):p.lo<=w.heap.size/\p.b<w.heap.size:=by
 have:=a.low p.b (by rw[a.own];decide);omega
def vB(p:mg)(s:Sy)(d:fX)(wt:ByteArray)(a b:Int)(t:Tc)(w w':World):Prop:=
 ∃e f,aV p (s.tell wt a b t) {d with ow:=Cn d w w' (-3),ev:=e,es:=d.es++ [(wt,a,b,f)]} w'/\bi (λc=>c=p.b\/d.ow c=-3) w w'
theorem aV.tell{p:mg}{s:Sy}{d:fX}{w:World}(h:aV p s d w)(wt:ByteArray)(a b V W:Int)(X:ByteArray)(xa:Option Addr)(Y xc:Nat)(t:Tc)(ay:KA V W X xa Y xc t w)(ax:d.es.length<=100000):Calls Tryz.prog 35 #[.pointer (some ⟨p.b,0,none⟩),.string wt,.int .i64 a,.int .i64 b,.agg #[.int .i64 V,.int .i64 W,.string X,.slice xa Y xc]] w λe w'=>e=.returned (.tuple #[])/\Hid (vB p s d wt a b t w w'):=by
 obtain⟨aa,ak⟩:=h.lo;obtain⟨y,z,m⟩:∃y z,d.ev=.slice y d.es.length z:=by
  rcases h.evr.1.2 with⟨e,av⟩|⟨g,c,aL,e,_⟩
  ·exact⟨none,0,by rw[e,av]⟩
  ·exact⟨_,c,e⟩
 have O:=h.box;have I:d.ev.ownBlock≠some p.b:=λe=>by
  have u:=h.evr.2 _ e;rw[h.own]at u;cases u
 have aj:=h.evr.1;rw[m]at aj I;refine(Bx p.lo p.b wt a b V W X xa Y xc y d.es.length z _ (λK w' y0 y1 y2 ya yl yc=>∃l:Tc,(l.1=(y0,y1,y2)/\l.2.1=(ya,yc)/\l.2.2.length=yl)/\(In w'.heap.size w' 13 l/\cg (λf=>K.heap.size<=f) 13 l)/\cn 13 l=t/\t8 l) w ax ak aa ⟨?_,by simp[World.frozen?,O]⟩ aj I ay).mono ?_
 ·have u:=ab O 6;simp only[dI,cE,cP]at u;rw[m]at u;exact u
 rintro e w' ⟨rfl,an⟩;obtain⟨g,c,q,x,K,L,y0,y1,y2,ya,yl,yc,R,aG,⟨l,⟨M,N,aw⟩,Q,az,aD⟩,S,al,J⟩:=an.out;have H:Below w.heap.size w L:=R.trans (aG.mono R.size);have P:bi (λaK=>(Value.slice y d.es.length z).ownBlock=some aK) w q:=(aC H _).trans S λ_ _ e=>e;have o:bi (λf=>f=p.b\/d.ow f=-3) w w':=by
  rw[x];refine(P.mono (T:=λf=>f=p.b\/d.ow f=-3) λf _ e=>af (h.evr.2 f (by rw[m];exact e))).trans (bH q p.b 6 _) λf _ e=>ae e
 have aF:=o.size;have aO:w'.heap.size=q.heap.size:=by rw[x];simp[World.setCell]
 have Z:w'.heap[p.b]?=some (.cells (dI p (s.tell wt a b t) {d with ow:=Cn d w w' (-3),ev:=.slice (some ⟨g,0,none⟩) (d.es.length+1) c,es:=d.es++ [(wt,a,b,l)]}) 72):=by
  have v:q.heap[p.b]?=some (.cells (dI p s d) 72):=(P.block p.b ak I).trans O;rw[x];simp[World.setCell,bK,v,dI,Sy.tell]
 have ad:=rT (t:=-3) h aF aa;have n:=rU (w':=w') (t:=-3) h;have G:∀{U:Int},U≠ -3->U≠ -5->∀f,d.ow f=U->¬(f=p.b\/d.ow f=-3):=λF v f e i=>by
  rcases i with rfl|i
  ·rw[h.own]at e;exact v e.symm
  ·exact F (e.symm.trans i)
 have ai:∀f,w.heap.size<=f->f<w'.heap.size->Cn d w w' (-3) f=-3:=λf ao ap=>if_pos ⟨ao,ap⟩;obtain⟨ar,au⟩:=oP Z;obtain⟨E,j,r⟩:=h.wyK o (G (by decide) (by decide)) n rfl ar;refine⟨rfl,.slice (some ⟨g,0,none⟩) (d.es.length+1) c,l,⟨ad,Z,(n p.b (by rw[h.own];decide)).trans h.own,⟨h.pgK o (G (by decide) (by decide)) n,h.pg.2⟩,h.pmK o (λf M N i=>?_) n,h.keys,λk b f=>h.psK o (ag _) (G (by have:=(h.key f).1;omega) (by have:=(h.key f).1;omega)) n ad f,⟨E,j,h.wy.2.2.1,h.wy.2.2.2.1,r⟩,h.bdK o (G (by decide) (by decide)) n rfl au,⟨?_,λf e=>?_⟩,?_,λe A=>?_⟩,o⟩
 ·rcases i with i|i
  ·exact N i
  ·rw[M]at i;cases i
 ·have e:[(wt,a,b,l)].flatMap EC=[.string wt,.int .i64 a,.int .i64 b,.int .i64 y0,.int .i64 y1,.string y2,.slice ya yl yc]:=by simp[EC,M,N,aw]
  have v:w'.ownsRow p.lo 58 7 (.slice (some ⟨g,0,none⟩) (d.es.length+1) c) (d.es.length+1) (d.es.flatMap EC++ [(wt,a,b,l)].flatMap EC):=by
   rw[e,x];refine aT al (bH q p.b 6 _) λf aE i=>?_;have:g=f:=aq aE;subst this i;rcases J with i|i
   ·exact I i
   ·have:=H.size;omega
  rw[<-jA]at v;simpa using v
 ·have B:g=f:=aq e;subst B;rcases J with i|i
  ·have F:=h.evr.2 g (by rw[m];exact i);exact(n g (by rw[F];decide)).trans F
  ·have:=H.size;have:=(al.lt g rfl).2;exact ai g (by omega) (by omega)
 ·show _=s.evs++ [(wt,a,b,t)];rw[gu,h.evt.1,aJ,bP,az]
 ·have aB:bi (λf=>f=p.b\/d.ev.ownBlock=some f) w w':=by
    rw[x,m];exact(P.mono (T:=λf=>f=p.b\/(Value.slice y d.es.length z).ownBlock=some f) λf _ e=>af e).trans (bH q p.b 6 _) λf _ e=>ae e
  have aA:bi (λf=>f=p.b\/d.ev.ownBlock=some f) L w':=by
   rw[x,m];exact(S.mono (T:=λf=>f=p.b\/(Value.slice y d.es.length z).ownBlock=some f) λf _ e=>af e).trans (bH q p.b 6 _) λf _ e=>ae e
  have aN:=H.size;rcases dp.1 A with A|A
  ·obtain⟨⟨am,aH⟩,aI⟩:=h.evt.2 e A;refine⟨?_,aI⟩;have C:=eR aB (D:=λf=>(d.ow f=-3/\d.ev.ownBlock≠some f)/\f<w.heap.size) (λf E j=>?_) ⟨am,In.offB aH am⟩
   ·refine⟨C.1,C.2.mono λf i=>⟨(n f (by rw[i.1.1];decide)).trans i.1.1,λj=>?_⟩⟩;have B:g=f:=aq j;subst B;rcases J with r|r
    ·exact i.1.2 (by rw[m];exact r)
    ·omega
   ·rcases j with rfl|j
    ·have:=E.1.1;rw[h.own]at this;cases this
    ·exact E.1.2 j
  ·obtain rfl:=ed.1 A;refine⟨?_,aD⟩;have aM:=R.size;have ah:∀f,d.ev.ownBlock=some f->f<w.heap.size:=λf i=>(h.evr.1.lt f i).2;have C:=eR aA (D:=λf=>K.heap.size<=f/\f<L.heap.size) (λf E j=>?_) ⟨Q.1,In.offB Q.2 Q.1⟩
   ·have:=S.size;refine⟨C.1,C.2.mono λf i=>⟨ai f (by omega) (by omega),λj=>?_⟩⟩;have B:g=f:=aq j;subst B;rcases J with r|r
    ·have:=ah g (by rw[m];exact r);omega
    ·omega
   ·rcases j with rfl|j
    ·omega
    ·have:=ah f j;omega
theorem LD{w:World}{q:Nat}{a b c d:Value}{T:TypeId}{fr:Nat×Nat}(e:w.heap[q]?=some (.cells #[a,b,c,d] T fr)):w.cell? ⟨q,0,none⟩=some a/\w.cell? ⟨q,1,none⟩=some b/\w.cell? ⟨q,2,none⟩=some c/\w.cell? ⟨q,3,none⟩=some d:=by simp[World.cell?,e]
end Go.Proofs.YtmbjgiaebneodaaGreat
