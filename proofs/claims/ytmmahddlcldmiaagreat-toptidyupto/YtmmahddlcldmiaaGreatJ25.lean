/- Proved here: plain facts and contracts. No condition but what each names. -/
import Derived.Test.YtmmahddlcldmiaaGreatJ24
import Derived.Deep.DeepAppendWide
import Derived.MapKept
namespace Go.Proofs.YtmmahddlcldmiaaGreat
open Go.RowKit Go.Maps Tryz
open Go.RowKit
open Go.MapKept
set_option maxRecDepth 100000
set_option maxHeartbeats 4000000
variable {base n:Nat} {bp:BL} {mo:Option Nat} {g:Int×Int->Bool} {w:ag}
def NM(base:Nat)(bp:BL)(mo:Option Nat)(n:Nat)(g:Int×Int->Bool)(x:Int)(j:Nat)(a:aw)(L c:Nat)(w W:ag):Prop:=
 (dp g x j).length=L/\iL w.heap.size (ae a L c) (dp g x j) W/\eU base bp mo n (wo g (x::(dp g x j).take j)) W/\bB (λb=>mo=some b) w W
def NR(base:Nat)(bp:BL)(mo:Option Nat)(n:Nat)(g:Int×Int->Bool)(x:Int)(j:Nat)(l:List Int)(d:aw)(e:Nat)(q:Nat)(a:aw)(L c:Nat)(w W:ag):Prop:=
 (fW g x j l q).length=L/\iL w.heap.size (ae a L c) (fW g x j l q) W/\iL w.heap.size (ae d l.length e) l W/\(∀b,(Value.slice a L c).ownBlock=some b->(Value.slice d l.length e).ownBlock≠some b)/\eU base bp mo n (wo g (x::(dp g x (j+1)).take (j+1))) W/\bB (λb=>mo=some b) w W
variable{e:BL}{k t x:Int}{l:List (Int×Nat)}{f L b base c n q:Nat}{o:Obj}{h:Option Nat}{S:aR}{w w' w1:ag}{v:av}{a:aw}
theorem tz{l:List Int}(b:qT v l w)(e:v=ae a L c)(i:Nat)(k:Int)(h:l[i]?=some k):∃g o,a=some ⟨g,o,none⟩/\w.cell? ⟨g,o+i,none⟩=some (ab k):=by
 obtain⟨j,m,d,b⟩:=b.cells;rw[e]at d;injection d with f n p;subst f;exact b i k h
theorem NR.more{j:Nat}{l:List Int}{z:aw}{W:ag}(B:NR base bp mo n g x j l z f q a L c w W)(I:l.Nodup)(M:∀b,LS bp mo b->b<w.heap.size){y:Int}(N:l[q]?=some y)(J:(fW g x j l q).contains y=false){h p:Nat}{i:ag}(K:i.ownsRow w.heap.size 3 1 (ae (some ⟨h,0,none⟩) (L+1) p) (L+1) (jR (fW g x j l q)++ [ab y]))(H:(W.alloc o).grownBy i (Value.slice a L c).ownBlock)(G:(Value.slice a L c).ownBlock=some h\/h=(W.alloc o).heap.size):NR base bp mo n g x j l z f (q+1) (some ⟨h,0,none⟩) (L+1) p w i:=by
 obtain⟨r,C,s,t,D,E⟩:=B;have d:fW g x j l (q+1)=fW g x j l q++ [y]:=by
  rw[qI I N,J];rfl
 have F:ak W (W.alloc o):=(aq _ _).alloc (ao _) _;have m:bB (λb=>(Value.slice a L c).ownBlock=some b) W i:=bB.trans (aO F _) (eA H) λb _ d=>d;have v:∀b,(Value.slice a L c).ownBlock=some b->w.heap.size<=b:=λb e=>(C.lt b e).1;refine⟨by rw[d,bw,r];rfl,?_,bu s m λb e d=>t b d e,?_,D.kee m λb e d=>?_,bB.trans E m λb e d=>?_⟩
 ·unfold iL;rw[d,lP,bw,r];exact K
 ·intro b e u;have A:h=b:=aA e;subst A;rcases G with k|k
  ·exact t _ k u
  ·have:=(s.lt _ u).2;simp at k;omega
 ·have:=M b e;have:=v b d;omega
 ·have:=v b d;omega
theorem FY(base:Nat)(bp:BL)(mo:Option Nat)(n:Nat)(g:Int×Int->Bool)(x:Int)(w:ag)(u:Hid (Aw g))(Z:Hid (∀b,LS bp mo b->b<w.heap.size))(X:Hid (am 119 #[.pointer (some ⟨bp.b,bp.o,none⟩),ab x] w λe w'=>∃a L c,e=.returned (ae a L c)/\Hid (NM base bp mo n g x 0 a L c w w'))):am 81 #[.pointer (some ⟨bp.b,bp.o,none⟩),ab x,.bool false] w λe w'=>∃v,e=.returned v/\Hid (iL w.heap.size v (tB g x) w'/\eU base bp mo n (wo g (x::tB g x)) w'/\bB (λb=>mo=some b) w w'):=by
 obtain⟨B,an,ap,aq,ar⟩:=bW Fi;have F:Hid (Tryz.prog.info? 3=some B/\B.zero=some (ab 0)/\B.size=1/\B.bytes=8):=⟨an,ap,aq,ar⟩;clear an ap aq ar;go_enter func81,ntmps81;go_wp2_with fail;refine X.mono ?_;rintro e bb ⟨a,L,c,rfl,M⟩;go_wp2_with fail;go_loopw [7,8] (λv q wr=>∃(d:Nat)(a:aw)(L c:Nat),v=ae a L c/\q=ab d/\d<=99/\L<=99/\Hid (NM base bp mo n g x d a L c w wr)) (λ_ q _=>100-(intOf q).toNat)
 case atStart=>exact⟨0,a,L,c,rfl,rfl,by omega,by have m:=(jg u x 0).le;have p:=M.1;omega,M⟩
 case round=>
  clear M X;obtain⟨d,a,L,c,rfl,rfl,a4,I,h⟩:=hrel;by_cases aP:d<L
  ·obtain⟨r,J⟩:∃r,(dp g x d)[d]?=some r:=⟨(dp g x d)[d]'(by rw[h.out.1];exact aP),aM _⟩;obtain⟨af,o,rfl,aG⟩:=tz h.2.1.row rfl d r J;have H:=au J;have aC:Hid (dC r):=by
    have:=(jg u x d).rng r (aN J);unfold Hid dC;omega
   clear J;have a7:(0:Int)<=(d:Int):=by omega
   have a8:(d:Int)<(L:Int):=by omega
   have Y:=au (sr h.2.2.1 (u.wo _) aC);go_wp2_with fail;refine Y.mono ?_;rintro e U ⟨aZ,rfl,G⟩;obtain⟨l,z⟩:∃l,l=qQ (wo g (x::(dp g x d).take d)) r:=⟨_,rfl⟩;rw[<-z]at G;obtain⟨j,k⟩:∃j,j=l.length:=⟨_,rfl⟩;have a3:j<=99:=by
    have:=vD (wo g (x::(dp g x d).take d)) r;rw[k,z];exact this
   obtain⟨K,C,aV⟩:∃K C,aZ=ae K j C:=by
    obtain⟨aD,aE,e,_⟩:=G.out.1.row;exact⟨aD,aE,by rw[k];exact e⟩
   subst aV;have N:Hid l.Nodup:=by rw[z];exact o7 _ _
   have aa:Hid (∀f,(fW g x d l f).length<=99):=by rw[z];exact λf=>K9 u H f
   have av:Hid (fW g x d l j=dp g x (d+1)):=by rw[k,z];exact yu H
   have W:Hid (NR base bp mo n g x d l K C 0 (some ⟨af,o,none⟩) L c w U):=by
    have aW:=Ni H (g:=g) (x:=x);have A:=G.out;have aU:∀b,mo=some b->b<w.heap.size:=λb e=>Z b (aj e);have aQ:bB (λb=>mo=some b) w U:=bB.trans h.2.2.2 A.2.2 λ_ _ e=>e;have ad:fW g x d l 0=dp g x d:=by simp[fW,zw]
    have aT:iL w.heap.size (ae (some ⟨af,o,none⟩) L c) (dp g x d) U:=bu h.2.1 A.2.2 λb R e=>by
     have:=(h.2.1.lt b R).1;have:=aU b e;omega
    refine⟨by rw[ad];exact h.1,by rw[ad];exact aT,?_,?_,?_,aQ⟩
    ·rw[<-k];exact rO A.1 h.2.2.2.size
    ·intro b R ak;rw[<-k]at ak;have:=(A.1.lt b ak).1;have:=(h.2.1.lt b R).2;omega
    ·rw[<-aW];exact A.2.1
   replace k:=au k;clear G h Y aG z;go_wp2_with fail;go_loopw [7,28] (λv q wr=>∃(f:Nat)(a:aw)(L c:Nat),v=ae a L c/\q=ab f/\f<=j/\L<=99/\Hid (NR base bp mo n g x d l K C f a L c w wr)) (λ_ q _=>j-(intOf q).toNat)
   case atStart=>exact⟨0,_,L,c,rfl,rfl,aL _,I,W⟩
   case round=>
    clear W;obtain⟨f,a,L,c,rfl,rfl,a6,I,i⟩:=hrel;by_cases aS:f<j
    ·obtain⟨s,T⟩:∃s,l[f]?=some s:=⟨l[f]'(by rw[<-k.out];exact aS),aM _⟩;obtain⟨aI,aY,rfl,a1⟩:=tz i.2.2.1.row rfl f s T;have Q:=au T;clear T;have a9:(0:Int)<=(f:Int):=by omega
     have ba:(f:Int)<(j:Int):=by omega
     have V:=au (wM i.2.1.row (by rw[i.out.1];omega) s);obtain⟨t,S⟩:∃t,t=(fW g x d l f).contains s:=⟨_,rfl⟩;rw[<-S]at V;have P:=au S;clear S;go_wp2_with fail;refine V.mono ?_;rintro e D ⟨rfl,rfl⟩;cases t
     ·have a0:=au (aa (f+1));have ay:Hid (L+1<=99):=by
       have m:=aa (f+1);have p:=i.1;rw[qI N.out Q.out,<-P.out,bw]at m;simp at m;unfold Hid;omega
      have aB:Hid (w.heap.size<=D.heap.size):=i.2.2.2.2.2.size;have aA:=au i.2.1;have az:=au i.1
      go_wp2_with (first
       | (at_builtin;refine wpList_append_lies _ rfl _ _ 25 rfl w.heap.size 3 B _ 1 8 underlying25 F.1 F.2.1 F.2.2.1 F.2.2.2 rfl (by decide) (ae a L c) L (jR (fW g x d l f)) rfl ((show D.ownsRow w.heap.size 3 1 (ae a L c) L (jR (fW g x d l f))from by have y:=aA.out;unfold iL at y;rw[az.out]at y;exact y).alloc _) ⟨D.heap.size,0,none⟩ 1 1 [ab s] rfl rfl (World.news_of_block (cs:= #[ab s]) (t:=3) (fr:=(0,0)) (aF D _)) (by simp[Value.oneCell']) (by decide) (by unfold maxLen;omega) (by omega) (by have:=aB.out;simp;omega) _ rfl ?_;intro a2 aH bc ao al ai aR;have O:=au (i.more N Z Q P.symm ao al ai);clear ao al ai aR))
      go_roundw
      case rel=>exact⟨f+1,_,L+1,aH,rfl,by go_num,by omega,ay,O⟩
      case measure=>simp[intOf];omega
     ·have O:Hid (NR base bp mo n g x d l (some ⟨aI,aY,none⟩) C (f+1) a L c w D):=by
        have y:=i.out;unfold NR at y ⊢;have e:fW g x d l (f+1)=fW g x d l f:=by
         rw[qI N.out Q.out,<-P.out];simp
        rw[e];exact y
      go_wp2_with fail;go_roundw
      case rel=>exact⟨f+1,_,L,c,rfl,by go_num,by omega,I,O⟩
      case measure=>simp[intOf];omega
    ·obtain rfl:f=j:=by omega
     have E:Hid (NM base bp mo n g x (d+1) a L c w wr):=by
      obtain⟨m,p,_,_,aK,aO⟩:=i;rw[av.out]at m p;exact⟨m,p,aK,aO⟩
     have ax:Hid (d+1<=99):=by
      have:=(jg u x d).le;have:=(aX.1 H).1;unfold Hid;omega
     go_wp2_with fail;go_roundw
     case rel=>exact⟨d+1,a,L,c,rfl,by go_num,ax,I,E⟩
     case measure=>simp[intOf];omega
  ·have E:Hid (dp g x d=tB g x):=Im u (by rw[h.out.1];omega);have a5:¬(d:Int)<(L:Int):=by omega
   go_wp2_with fail
   go_ret
   obtain⟨m,p,ah,aJ⟩:=h;rw[bF (by omega),E.out]at ah;rw[E.out]at p;exact⟨_,rfl,p,ah,aJ⟩
theorem AH(bp:BL)(x:Int)(w:ag)(R:ag->Prop)(c:Hid (am 119 #[.pointer (some ⟨bp.b,bp.o,none⟩),ab x] w λe w'=>∃v,e=.returned v/\Hid (R w'))):am 81 #[.pointer (some ⟨bp.b,bp.o,none⟩),ab x,.bool true] w λe w'=>e=.returned (ae none 0 0)/\R w':=by
 go_enter func81,ntmps81;go_wp2_with fail;refine c.mono ?_;rintro e d ⟨v,rfl,a⟩;go_wp2_with fail
 go_ret
 exact⟨rfl,a⟩
def uP(g:Int×Int->Bool)(x:Int)(a:Bool):List Int:=if a then []else tB g x
theorem I6(f:eU base bp mo n g w)(h:Aw g)(i:dC x)(d:Bool):am 81 #[.pointer (some ⟨bp.b,bp.o,none⟩),ab x,.bool d] w λe w'=>∃v,e=.returned v/\Hid (iL w.heap.size v (uP g x d) w'/\eU base bp mo n (wo g (x::uP g x d)) w'/\bB (λb=>mo=some b) w w'):=by
 cases d
 ·rw[show uP g x false=tB g x from if_neg (by decide)];refine FY base bp mo n g x w h (λb m=>(f.lt b m).2) ?_;refine(sr f h i).mono ?_;rintro e w' ⟨v,rfl,a⟩;obtain⟨j,c,e,_⟩:=a.out.1.row;subst e;exact⟨j,_,c,rfl,rfl,a.1,a.2.1,a.2.2⟩
 ·refine(AH bp x w (λw'=>eU base bp mo n (wo g [x]) w'/\bB (λb=>mo=some b) w w') ?_).mono ?_
  ·refine(sr f h i).mono ?_;rintro e w' ⟨v,rfl,a⟩;exact⟨v,rfl,a.2⟩
  ·rw[show uP g x true=[]from if_pos rfl];rintro e w' ⟨rfl,k,l⟩;exact⟨_,rfl,iL.nil _ _,k,l⟩
def E8:ap:=⟨#[115,112,97,119,110]⟩
def Nx:ap:=⟨#[101,110,100]⟩
def om:ap:=⟨#[116,97,107,101]⟩
def JF:ap:=⟨#[115,101,110,100]⟩
def ol:ap:=⟨#[108,111,115,116]⟩
def tF:Tc:=((0,0,⟨#[]⟩),(none,0),[])
structure Sy where
 last:Int
 ps:List (Int×ap×Tc×List Tc)
 ways:Int×Int->List Tc
 bonds:Int×Int->Bool
 evs:List (ap×Int×Int×Tc)
def Sy.get(s:Sy)(k:Int):Option (ap×Tc×List Tc):=(s.ps.find? λp=>p.1==k).map (·.2)
def Sy.put(s:Sy)(k:Int)(v:ap×Tc×List Tc):Sy:={s with ps:=s.ps.map λp=>if p.1=k then (k,v)else p}
def Sy.tell(s:Sy)(wt:ap)(a b:Int)(t:Tc):Sy:={s with evs:=s.evs++ [(wt,a,b,t)]}
def Sy.add(s:Sy)(a:Int)(nm:ap)(cs:Tc):Sy:=Sy.tell {s with last:=s.last+1,ps:=s.ps++ [(s.last+1,nm,cs,[])]} E8 a (s.last+1) cs
def Sy.drop(s:Sy)(x how:Int):Sy:=Sy.tell {s with ps:=s.ps.eraseP λp=>p.1==x} Nx x how tF
def Sy.fin(s:Sy)(x how:Int):Sy:=(uP s.bonds x (how==1)).foldl (λs y=>s.drop y 4) {s.drop x how with bonds:=wo s.bonds (x::uP s.bonds x (how==1))}
def Sy.deliver(s:Sy)(room a b:Int)(t:Tc):Sy:=match s.get b with
 | none=>s
 | some (nm,cs,cms)=>if nz 13 t room cs cms=2 then s.tell ol a b t else if nz 13 t room cs cms=6 then s.fin b 3 else if nz 13 t room cs cms=0 then s.put b (nm,cs,cms++ [t])else s
def Sy.send(s:Sy)(a b:Int)(t:Tc):Sy:=if nT 12 a b t (s.ways (a,b)).length=0 then Sy.tell {s with ways:=iN s.ways (a,b) (s.ways (a,b)++ [t])} JF a b t else s.tell ol a b t
def Sy.link(s:Sy)(a b:Int):Sy:=if (s.get b).isSome then {s with bonds:=if vq a b=0 then iN s.bonds (jc a b) true else s.bonds}else s
def Sy.may(s:Sy)(n:Nat):Bool:=decide ((s.ps.length:Int)+n<=12) && decide (s.last+n<=90)
section
variable (n:Nat) (prog:List (Bh (n+1))) (room:Int)
def lu(nm:ap):Bool:=(gj (n+1) nm prog).isSome
def Sy.made(s:Sy)(l:List (Int×ap×Tc)):Bool:=s.may l.length && l.all λx=>lu n prog x.2.1 && gg 13 x.2.2 room x.2.1==0
def Sy.follow(s:Sy)(a:Int)(c:Tk):Sy:=
 let s:=c.spawns.foldl (λs b=>s.add a b.2.1 b.2.2) s
 let s:=c.sends.foldl (λs b=>s.send a b.1 b.2) s
 let s:=c.links.foldl (λs b=>s.link a b) s
 if c.fate=1 then s.fin a 1 else s
def Sy.run(s:Sy)(a:Int):Sy×Int:=match s.get a with
 | none=>(s,4)
 | some (nm,cs,cms)=>if rV n room prog nm a (s.last+1) cs cms=0 then match nJ room prog nm a (s.last+1) cs cms with
     | none=>(s,0)
     | some b=>
      let s:=(s.put a (nm,b.state,b.mail)).tell om a 0 b.message
      (if b.fate=2\/b.fate=3 then s.fin a b.fate else if s.made n prog room b.spawns=false then s.fin a 2 else s.follow a b,0)
  else (s,rV n room prog nm a (s.last+1) cs cms)
def Sy.arrive(s:Sy)(a b:Int):Sy×Int:=match s.ways (a,b)with
 | []=>(s,4)
 | t::l=>
  let s:={s with ways:=iN s.ways (a,b) l}
  (if (s.get b).isSome then s.deliver room a b t else s.tell ol a b t,0)
def Sy.inject(s:Sy)(a:Int)(k:Nat)(x:Tm k):Sy×Int:=if (s.get a).isSome=false then (s,4)else if bE k x≠0 then (s,bE k x)else if aS k x=false then (s,5)else (s.deliver room 0 a (cn k x),0)
def Sy.do(s:Sy)(c a b:Int)(k:Nat)(x:Tm k):Sy×Int:=if c=1 then s.run n prog room a else if c=2 then s.arrive room a b else if c=3 then s.inject room a k x else (s,1)
def Sy.start(s:Sy)(nm:ap)(k:Nat)(x:Tm k):Sy×Int:=if s.may 1=false then (s,2)else if lu n prog nm=false then (s,4)else if gg k x room nm≠0 then (s,gg k x room nm)else (s.add 0 nm (cn k x),0)
end
variable {P:Program} {md:Region.Mode} {ops:Array Oper} {Q:Exit->Act->ag->Prop} {S:ag->Prop} {X:Nat}
theorem Lw(i:Nat){d:Oper}{e:Array Bool}{a:Act}(l:ops[i]?=some d)(b:(Region.noSelect ops && Region.free md ops e i && (Region.ready md ops e).contains i && Al md ops X i)=true)(h:∀c a w,Q (.panic c) (a.put d.dst v) w->Q (.panic c) a w)(k:d.guard=none)(m:∀w,S w->(execOp a.eval d).run P w=.ok (.value v) w)(j:S w)(g:jW P md ops Q S X f (e.setIfInBounds i true) (a.put d.dst v) w):jW P md ops Q S X (f+1) e a w:=by
 simp only[aK]at b;exact aZ l b.1.1.1 b.1.1.2 b.1.2 b.2 h k m j g
theorem JQ:(Tryz.prog.info? 54).map (λi=>(i.zero,i.size,i.bytes))=some (some (.agg #[.string ⟨#[]⟩,.int .i64 0,.int .i64 0,.int .i64 0,.int .i64 0,.string ⟨#[]⟩,.slice none 0 0]),7,88):=by kernel_rfl
def Nu(base:Nat)(wt:ByteArray)(a b:Int)(f:Option Addr)(L h:Nat)(xs:List Value)(R:World->World->Int->Int->ByteArray->Option Addr->Nat->Nat->Prop)(w i:World)(g c:Nat):Prop:=
 ∃d e y0 y1 y2 ya yl yc,Below w.heap.size w d/\Below d.heap.size d e/\R d e y0 y1 y2 ya yl yc/\bB (λj=>(Value.slice f L h).ownBlock=some j) e i/\i.ownsRow base 54 7 (.slice (some ⟨g,0,none⟩) (L+1) c) (L+1) (xs++ [.string wt,.int .i64 a,.int .i64 b,.int .i64 y0,.int .i64 y1,.string y2,.slice ya yl yc])/\((Value.slice f L h).ownBlock=some g\/e.heap.size<=g)
theorem Es(base m:Nat)(wt:ByteArray)(a b A B:Int)(C:ByteArray)(xa:Option Addr)(D xc:Nat)(n:Option Addr)(L q:Nat)(xs:List Value)(R:World->World->Int->Int->ByteArray->Option Addr->Nat->Nat->Prop)(w:World)(aT:L<=100000)(X:m<w.heap.size)(aU:base<=w.heap.size)(Z:Hid (w.cell? ⟨m,6,none⟩=some (.slice n L q)/\w.frozen? ⟨m,6,none⟩=false))(ag:Hid (w.ownsRow base 54 7 (.slice n L q) L xs))(ab:Hid ((Value.slice n L q).ownBlock≠some m))(aa:Hid (∀W,Below w.heap.size w W->Calls Tryz.prog 56 #[.agg #[.int .i64 A,.int .i64 B,.string C,.slice xa D xc]] W λe w'=>∃y0 y1 y2 ya yl yc,e=.returned (.agg #[.int .i64 y0,.int .i64 y1,.string y2,.slice ya yl yc])/\Hid (Below W.heap.size W w'/\R W w' y0 y1 y2 ya yl yc))):Calls Tryz.prog 46 #[.pointer (some ⟨m,0,none⟩),.string wt,.int .i64 a,.int .i64 b,.agg #[.int .i64 A,.int .i64 B,.string C,.slice xa D xc]] w λe w'=>e=.returned (.tuple #[])/\Hid (∃g c r,w'=r.setCell ⟨m,6,none⟩ (.slice (some ⟨g,0,none⟩) (L+1) c)/\Nu base wt a b n L q xs R w r g c):=by
 obtain⟨aH,an,aw,ax,ay⟩:=bW JQ;have M:=au (⟨an,aw,ax,ay⟩:_/\_/\_/\_);clear an aw ax ay;go_enter func46,ntmps46;go_upto_region 1 with fail;generalize az:w.alloc _=s;have y:Hid (Below w.heap.size w s/\s.heap[w.heap.size]?=some (.cells #[.int .i64 A,.int .i64 B,.string C,.slice xa D xc] 31)):=by
  rw[<-az];exact⟨(aq _ _).alloc (ao _) _,aF _ _⟩
 clear az;obtain⟨h,T⟩:∃h,h=w.heap.size:=⟨_,rfl⟩;rw[<-T];rw[<-T]at y;have O:=au T;clear T;have N:Hid (∀W:World,Below s.heap.size s W->W.cell? ⟨m,6,none⟩=some (.slice n L q)/\W.cell? ⟨h,0,none⟩=some (.int .i64 A)/\W.cell? ⟨h,1,none⟩=some (.int .i64 B)/\W.cell? ⟨h,2,none⟩=some (.string C)/\W.cell? ⟨h,3,none⟩=some (.slice xa D xc)):=λW d=>by
  have Q:=(d.block h (aJ.1 y.2).1).trans y.2;have aC:=(O.out▸y.out.1:Below w.heap.size w s).trans (d.mono (O.out▸y.out.1:Below w.heap.size w s).size);exact⟨(aC.cell (p:=⟨m,6,none⟩) X).trans Z.1,ah Q 0,ah Q 1,ah Q 2,ah Q 3⟩
 have G:Hid (Below s.heap.size s s.drew):=(aq _ _).drew;have z:Hid (Below w.heap.size w s):=by
  have d:=y.1;rw[O.out]at d;exact d
 have u:=N _ G;refine wp_region_noPanic ?_;refine jJ (λW=>W.cell? ⟨m,6,none⟩=some (.slice n L q)/\W.cell? ⟨h,0,none⟩=some (.int .i64 A)/\W.cell? ⟨h,1,none⟩=some (.int .i64 B)/\W.cell? ⟨h,2,none⟩=some (.string C)/\W.cell? ⟨h,3,none⟩=some (.slice xa D xc)) 15 (by kernel_rfl) ?_
 try simp only[dT]
 refine Lw 0 (v:= ?_) rfl (by kernel_rfl) (λ_ _ _ d=>d) rfl ?_ u ?_;rotate_left
 ·intro w' f
  try dsimp only at f
  go_simp
  try with_reducible rfl
 try simp only[Act.put,cg]
 refine Lw 1 (v:= ?_) rfl (by kernel_rfl) (λ_ _ _ d=>d) rfl ?_ u ?_;rotate_left
 ·intro w' f
  try dsimp only at f
  go_simp
  try with_reducible rfl
 try simp only[Act.put]
 refine Lw 2 (v:= ?_) rfl (by kernel_rfl) (λ_ _ _ d=>d) rfl ?_ u ?_;rotate_left
 ·intro w' f
  try dsimp only at f
  go_simp
  try with_reducible rfl
 try simp only[Act.put]
 refine Lw 3 (v:= ?_) rfl (by kernel_rfl) (λ_ _ _ d=>d) rfl ?_ u ?_;rotate_left
 ·intro w' f
  try dsimp only at f
  go_simp
  try with_reducible rfl
 try simp only[Act.put]
 refine Lw 4 (v:= ?_) rfl (by kernel_rfl) (λ_ _ _ d=>d) rfl ?_ u ?_;rotate_left
 ·intro w' f
  try dsimp only at f
  go_simp
  try with_reducible rfl
 try simp only[Act.put]
 refine Lw 5 (v:= ?_) rfl (by kernel_rfl) (λ_ _ _ d=>d) rfl ?_ u ?_;rotate_left
 ·intro w' f
  try dsimp only at f
  go_simp
  try with_reducible rfl
 try simp only[Act.put]
 refine Lw 6 (v:= ?_) rfl (by kernel_rfl) (λ_ _ _ d=>d) rfl ?_ u ?_;rotate_left
 ·intro w' f
  try dsimp only at f
  go_simp
  try with_reducible rfl
 try simp only[Act.put]
 refine Lw 7 (v:= ?_) rfl (by kernel_rfl) (λ_ _ _ d=>d) rfl ?_ u ?_;rotate_left
 ·intro w' f
  try dsimp only at f
  go_simp
  try with_reducible rfl
 try simp only[Act.put]
 refine Lw 8 (v:= ?_) rfl (by kernel_rfl) (λ_ _ _ d=>d) rfl ?_ u ?_;rotate_left
 ·intro w' f
  try dsimp only at f
  go_simp
  try with_reducible rfl
 try simp only[Act.put]
 refine dg (i:=9) (by kernel_rfl) rfl rfl (λx l=>?_) (by decide)
 go_simp
 refine(aa _ (z.trans (G.mono z.size))).mono ?_;rintro e j ⟨y0,y1,y2,ya,yl,yc,rfl,I⟩;have E:=au (G.trans (I.1.mono G.size));have S:=N j E;refine l _ _ (λ_=>S) (λ_=>?_);clear l x
 try simp only[Act.put,cg,du,dt]
 refine Lw 10 (v:= ?_) rfl (by kernel_rfl) (λ_ _ _ d=>d) rfl ?_ S ?_;rotate_left
 ·intro w' f
  try dsimp only at f
  go_simp
  try with_reducible rfl
 try simp only[Act.put,cg]
 have F:=au (z.trans (E.mono z.size));obtain⟨o,ap⟩:∃o:Obj,o=.cells #[.string wt,.int .i64 a,.int .i64 b,.int .i64 y0,.int .i64 y1,.string y2,.slice ya yl yc] 54:=⟨_,rfl⟩;have K:Hid (Below j.heap.size j (j.alloc o)):=(aq _ _).alloc (ao _) o;have ai:=au (N _ (E.trans (K.mono E.size)));have ae:Hid ((j.alloc o).ownsRow base 54 7 (.slice n L q) L xs):=bu ag (aO (F.trans (K.mono F.size)) λ_=>False) λ_ _ d=>d;have ad:Hid ((j.alloc o).heap[j.heap.size]?=some o):=aF j o;have U:Hid ((j.alloc o).heap.size=j.heap.size+1):=(show _=_ by simp);rw[ap]at K ai ae ad U;clear ap o;refine dg (i:=11) (by kernel_rfl) rfl rfl (λx l=>?_) (by decide)
 go_simp
 refine l _ _ (λ_=>ai) (λaB=>?_);clear l x
 try simp only[Act.put,cg,du,dt]
 refine dg (i:=12) (by kernel_rfl) rfl rfl (λx l=>?_) (by decide);refine wp_append_lies _ _ _ 38 rfl base 54 aH _ 7 88 underlying38 M.1 M.2.1 M.2.2.1 M.2.2.2 rfl (by decide) (.slice n L q) L xs rfl ae ⟨j.heap.size,0,none⟩ 1 1 [.string wt,.int .i64 a,.int .i64 b,.int .i64 y0,.int .i64 y1,.string y2,.slice ya yl yc] rfl rfl (World.news_of_block (cs:= #[.string wt,.int .i64 a,.int .i64 b,.int .i64 y0,.int .i64 y1,.string y2,.slice ya yl yc]) (t:=54) (fr:=(0,0)) ad) (by simp[Value.oneCell']) (by decide) (by unfold maxLen;omega) (by omega) (by have:=U.out;have:=F.size;omega) _ rfl ?_;intro P aj r ar am ak aD;have H:Hid (bB (λaK=>(Value.slice n L q).ownBlock=some aK) j r):=bB.trans (aO K _) (eA am) λ_ _ e=>e;have Y:Hid ((Value.slice n L q).ownBlock=some P\/j.heap.size<=P):=ak.imp id λe=>by have:=U.out;omega
 have af:=au ar;have J:Hid ((r.cell? ⟨m,6,none⟩=some (.slice n L q)/\r.cell? ⟨h,0,none⟩=some (.int .i64 A)/\r.cell? ⟨h,1,none⟩=some (.int .i64 B)/\r.cell? ⟨h,2,none⟩=some (.string C)/\r.cell? ⟨h,3,none⟩=some (.slice xa D xc))/\r.frozen? ⟨m,6,none⟩=false):=by
  have aE:¬(Value.slice n L q).ownBlock=some h:=λe=>by
   have:=(ag.lt h e).2;have:=O.out;omega
  have aG:h<j.heap.size:=by
   have:=E.size;have:=(aJ.1 y.2).1;omega
  have av:m<j.heap.size:=aW X F.size;obtain⟨aL,aM,aN,aP,aQ⟩:=S;have k:=λaI=>H.cell aI aG aE;refine⟨⟨(H.cell 6 av ab).trans aL,(k 0).trans aM,(k 1).trans aN,(k 2).trans aP,(k 3).trans aQ⟩,?_⟩;have al:=Z.2;unfold World.frozen? at al ⊢;rw[H.out.block m av ab.out,F.out.block m X];exact al
 clear ar am ak aD;refine l _ _ (λ_=>J.1) (λV=>?_);clear l x
 try simp only[Act.put,cg]
 refine dg (i:=13) (by kernel_rfl) rfl rfl (λx l=>?_) (by decide)
 go_simp
 refine l _ _ (λ_=>V) (λ_=>?_);clear l x
 try simp only[Act.put,cg,du,dt]
 refine Lw 14 (v:= ?_) rfl (by kernel_rfl) (λ_ _ _ d=>d) rfl ?_ V ?_;rotate_left
 ·intro w' f
  try dsimp only at f
  go_simp
  try with_reducible rfl
 try simp only[Act.put,cg]
 have aS:=J.2;have aR:=J.1.1;refine jI (by kernel_rfl) rfl rfl (by kernel_rfl) (λx l=>?_)
 go_simp
 refine l _ _ (NoPanic.normal ?_);clear l x
 try simp only[Act.put,cg,du,dt]
 have aA:Hid (Nu base wt a b n L q xs R w r P aj):=⟨s.drew,j,y0,y1,y2,ya,yl,yc,z.trans (G.mono z.size),I.1,I.2,H,af,Y⟩;clear N aa J af Y H I u V aB S;exact dn (v:=.tuple #[]) (by simp[results]) rfl ⟨rfl,P,aj,r,rfl,aA⟩
def Ar(b:Nat):av:=aH b
def wH{b:Type}(f:b->av)(w:ag)(c:Nat)(l:List (Int×b)):Prop:=∃es a,w.heap[c]?=some (.map es a)/\es.toList.map (λe=>(e.key,e.val))=l.map (λp=>(ab p.1,f p.2))/\Stamped es a
def cZ{a:Type}(l:List (Int×a))(k:Int):Option a:=(l.find? λp=>p.1==k).map (·.2)
section
variable {α:Type} {f:α->av}
theorem Fh(k:Int):(es:List MapEntry)->(l:List (Int×α))->(i:Nat)->es.map (λe=>(e.key,e.val))=l.map (λp=>(ab p.1,f p.2))-> Instr.findNow (.int .i64) (ab k) es i=some ((l.findIdx? (λp=>p.1==k)).map λj=>(i+j,((cZ l k).map f).getD undef))
 | [],[],_,_=>rfl
 | [],_::_,_,h=>by simp at h
 | _::_,[],_,h=>by simp at h
 | e::es,p::l,i,h=>by
  rw[aU,aU,kN]at h;obtain⟨b,g⟩:=h;have d:e.key=ab p.1:=(Prod.mk.inj b).1;have n:e.val=f p.2:=(Prod.mk.inj b).2;have ih:=Fh k es l (i+1) g;by_cases a:p.1=k
  ·have c:(k==p.1)=true:=by simp[a]
   simp[Instr.findNow,Instr.sameNow,d,n,a,List.findIdx?_cons,cZ]
  ·have c:(k==p.1)=false:=by simpa using λe=>a e.symm
   have m:(p.1==k)=false:=by simpa using a
   rw[Instr.findNow,d];simp only[Instr.sameNow,cY,c];rw[ih];simp only[List.findIdx?_cons,cZ,jL,m];congr 1;cases List.findIdx? (λp=>p.1==k) l with
   | none=>rfl
   | some j=>simp;omega
theorem nC{w:ag}{es:Array MapEntry}{l:List (Int×α)}(k:Int)(b:es.toList.map (λe=>(e.key,e.val))=l.map λp=>(ab p.1,f p.2)):(Instr.findKey 3 (ab k) es.toList).run Tryz.prog w=.ok ((l.findIdx? (λp=>p.1==k)).map λj=>(j,((cZ l k).map f).getD undef)) w:=by
 have c:=underlying3;have a:=Fh k es.toList l 0 b;simp only[de]at a;simp[Instr.findKey,cC c,Result.andThen,a]
theorem lm(w:ag)(em:Bool)(k:Int):(Instr.checkKey em 10000 3 (ab k)).run Tryz.prog w=.ok () w:=by
 have a:=underlying3;unfold Instr.checkKey;simp[cC a,Result.andThen]
theorem zn{l:List (Int×α)}{k:Int}(a:cZ l k=none):l.findIdx? (λp=>p.1==k)=none:=by
 unfold cZ at a;rw[pA];intro p b;rw[Option.map_eq_none_iff,py]at a;simpa using a p b
theorem Ms{l:List (Int×α)}{k:Int}{b:α}(a:cZ l k=some b):∃j,l.findIdx? (λp=>p.1==k)=some j:=by
 cases e:l.findIdx? (λp=>p.1==k)with
 | some j=>exact⟨j,rfl⟩
 | none=>
  unfold cZ at a;rw[pA]at e;have:l.find? (λp=>p.1==k)=none:=py.2 λp c=>by simpa using e p c
  rw[this]at a;cases a
variable {w:ag} {mb mt et:Nat} {l:List (Int×α)}
theorem wH.look(i:wH f w mb l)(h:Tryz.prog.underlying mt=some (.map 3 et)){e:av}(n:(zeroValue et).run Tryz.prog w=.ok e w)(k:Int)(c:Bool):(cZ l k=none->(Instr.lookup mt (.map (some mb)) (ab k) c).run Tryz.prog w=.ok (if c then .tuple #[e,.bool false]else e) w)/\ ∀b,cZ l k=some b->(Instr.lookup mt (.map (some mb)) (ab k) c).run Tryz.prog w=.ok (if c then .tuple #[f b,.bool true]else f b) w:=by
 obtain⟨es,o,g,j,_⟩:=i;have d:=nC (w:=w) k j;refine⟨λa=>?_,λb a=>?_⟩
 ·rw[zn a]at d;simp[Instr.lookup,cC h,kR g,lm,d,Result.andThen,n]
 ·obtain⟨p,m⟩:=Ms a;rw[m]at d;simp[Instr.lookup,cC h,kR g,lm,d,Result.andThen,a]
theorem wH.put(m:wH f w mb l)(o:Tryz.prog.underlying mt=some (.map 3 et)){k:Int}(i:cZ l k=none)(b:α):∃w',(Instr.mapUpdate mt (.map (some mb)) (ab k) (f b)).run Tryz.prog w=.ok () w'/\wH f w' mb (l++ [(k,b)])/\bB (λq=>q=mb) w w'/\w'.heap.size=w.heap.size:=by
 obtain⟨es,u,a,e,n⟩:=m;have h:=nC (w:=w) k e;rw[zn i]at h;refine⟨_,by simp[Instr.mapUpdate,cC o,kR a,lm,h,MapKept.run_setObj_map _ a,Result.andThen];rfl,⟨_,_,(heap_set a).1,?_,stamped_push n λg s j=>?_⟩,?_,?_⟩
 ·simp[e]
 ·have t:(g.key,g.val)∈l.map λc=>(Value.int .i64 c.1,f c.2):=e▸cm.2 ⟨g,s,rfl⟩;obtain⟨c,p,d⟩:=cm.1 t;rw[j]at d;have:=pA.1 (zn i) c p;simp at d;simp[d.1]at this
 ·exact⟨rfl,rfl,rfl,by simp,λq _ r=>(heap_set a).2 q r⟩
 ·simp
theorem Bj{α β:Type}(f:α->β)(l:List α)(i:Nat):(l.map f).eraseIdx i=(l.eraseIdx i).map f:=by
 simp[sW,List.map_take,List.map_drop]
theorem wH.del(m:wH f w mb l)(j:Tryz.prog.underlying mt=some (.map 3 et))(k:Int):∃w',(∀ty,(Builtin.delete_ #[mt,3] ty #[.map (some mb),ab k]).run Tryz.prog w=.ok (.tuple #[]) w')/\wH f w' mb (l.eraseP λp=>p.1==k)/\bB (λq=>q=mb) w w'/\w'.heap.size=w.heap.size:=by
 obtain⟨es,h,a,b,i⟩:=m;have c:=nC (w:=w) k b;cases e:l.findIdx? (λp=>p.1==k)with
 | none=>
  rw[e]at c;refine⟨{w with heap:=w.heap.setIfInBounds mb (.map es h)},λty=>by simp[Builtin.delete_,cC j,kR a,lm,c,MapKept.run_setObj_map _ a,Result.andThen],⟨_,_,(heap_set a).1,?_,i⟩,?_,?_⟩
  ·rw[List.eraseP_of_forall_not λp r=>by have:=pA.1 e p r;rw[this];decide];exact b
  ·exact⟨rfl,rfl,rfl,by simp,λq _ d=>(heap_set a).2 q d⟩
  ·simp
 | some g=>
  rw[e]at c;refine⟨{w with heap:=w.heap.setIfInBounds mb (.map (es.eraseIdxIfInBounds g) h)},λty=>by simp[Builtin.delete_,cC j,kR a,lm,c,MapKept.run_setObj_map _ a,Result.andThen],⟨_,_,(heap_set a).1,?_,stamped_erase i g⟩,?_,?_⟩
  ·have o:g<es.size:=by
     have s:=(List.findIdx?_eq_some_iff_getElem.1 e).1;have n:=congrArg List.length b;simp at n;omega
   rw[List.eraseP_eq_eraseIdx,e];simp only[Array.eraseIdxIfInBounds,o,dite_true,Array.toList_eraseIdx];rw[<-Bj,<-Bj,b]
  ·exact⟨rfl,rfl,rfl,by simp,λq _ d=>(heap_set a).2 q d⟩
  ·simp
theorem wH.len(a:wH f w mb l)(e:Tryz.prog.underlying mt=some (.map 3 et))(ty:TypeId):(Builtin.len_ #[mt] ty #[.map (some mb)]).run Tryz.prog w=.ok (ab l.length) w:=by
 obtain⟨es,g,b,c,_⟩:=a;have d:es.size=l.length:=by
  have:=congrArg List.length c;simpa using this
 simp[Builtin.len_,cC e,kR b,Result.andThen,d];unfold goInt
 go_num
theorem wH.kept{w':ag}(b:wH f w mb l)(e:w'.heap[mb]?=w.heap[mb]?):wH f w' mb l:=by
 obtain⟨es,a,c,d⟩:=b;exact⟨es,a,e.trans c,d⟩
theorem wH.new(w:ag):wH f (w.alloc (.map #[] 0)) w.heap.size []:=⟨#[],0,aF _ _,rfl,stamped_empty 0⟩
end
abbrev IM(w:ag)(a:Nat)(l:List (Int×Nat)):Prop:=wH Ar w a l
theorem IM.look{w:ag}{a:Nat}{l:List (Int×Nat)}(d:IM w a l)(k:Int)(c:Bool):(cZ l k=none->(Instr.lookup 67 (.map (some a)) (ab k) c).run Tryz.prog w=.ok (if c then .tuple #[.pointer none,.bool false]else .pointer none) w)/\ ∀b,cZ l k=some b->(Instr.lookup 67 (.map (some a)) (ab k) c).run Tryz.prog w=.ok (if c then .tuple #[Ar b,.bool true]else Ar b) w:=
 wH.look d underlying67 (by kernel_rfl) k c
theorem Dt(w:ag)(k:Int)(c:Bool):(Instr.lookup 67 (.map none) (ab k) c).run Tryz.prog w=.ok (if c then .tuple #[.pointer none,.bool false]else .pointer none) w:=by
 have b:=underlying67;have d:(zeroValue 65).run Tryz.prog w=.ok (.pointer none) w:=by kernel_rfl
 have a:=nC (f:=Ar) (w:=w) (es:= #[]) (l:=[]) k rfl;simp[Instr.lookup,cC b,lm,a,Result.andThen,d]
structure ke where
 lo:Nat
 b:Nat
 room:Int
 n:Nat
 prog:List (Bh (n+1))
 pa:aw
 pc:Nat
structure fY where
 ow:Nat->Int
 po:Option Nat
 l:List (Int×Nat)
 wo:Option Nat
 wn:Nat
 f:Int×Int->List Tc
 sl:Int×Int->av
 bo:Option Nat
 bn:Nat
 ev:av
 es:List (ap×Int×Int×Tc)
 k:Nat
def eh(p:ke)(s:Sy)(d:fY):Array av:= #[ae p.pa p.prog.length p.pc,ab p.room,ab s.last,.map d.po,.map d.wo,.map d.bo,d.ev]
def As(p:ke)(s:Sy)(d:fY):BL:=⟨p.b,4,eh p s d,74⟩
def NB(p:ke)(s:Sy)(d:fY):BL:=⟨p.b,5,eh p s d,74⟩
def IR(e:ap×Int×Int×Tc):List av:=[af e.1,ab e.2.1,ab e.2.2.1,ab e.2.2.2.1.1,ab e.2.2.2.1.2.1,af e.2.2.2.1.2.2,ae e.2.2.2.2.1.1 e.2.2.2.2.2.length e.2.2.2.2.1.2]
def wL(t:Tc):Prop:=bE 13 t=0\/(t.1=(0,0,⟨#[]⟩)/\t.2.2=[])
structure bt (p:ke) (s:Sy) (d:fY) (w:ag):Prop where
 low:∀b,d.ow b≠0->p.lo<=b/\b<w.heap.size
 box:w.heap[p.b]?=some (.cells (eh p s d) 74)
 own:d.ow p.b=-5
 pg:(gq (p.n+1) w.heap.size w p.pa p.prog/\tI (jX (p.n+1) λb=>d.ow b=-4) (λb=>d.ow b=-4) p.pa p.prog)/\(p.prog.length<=p.pc/\p.pc<=maxLen/\lU p.n p.prog=0/\(aC (p.n+6) (cd p.n p.prog)).length<=2097152)
 pm:(d.po=none/\d.l=[])\/∃mb,d.po=some mb/\d.ow mb=-5/\mb≠p.b/\IM w mb d.l
 keys:d.l.map (·.1)=s.ps.map (·.1)/\(s.ps.map (·.1)).Nodup/\(∀q∈s.ps,1<=q.1/\q.1<=s.last)/\0<=s.last/\s.last<=90/\s.ps.length<=12
 ps:∀k b,cZ d.l k=some b->∃nm cs cms,s.get k=some (nm,cs,cms)/\P1 p.lo b nm p.room cs cms (d.k+201) (λq=>d.ow q=k) w/\cms.length<=20
 wy:ii p.lo (As p s d) d.wo d.wn 13 d.f d.sl w/\(∀b,r9 (As p s d) d.wo d.sl b->b=p.b\/d.ow b=-1)/\(∀k,(d.f k).map (cn 13)=s.ways k)/\(∀k,(d.f k).length<=20)/\∀k,∀y∈d.f k,bE 13 y=0/\aS 13 y=true/\In w.heap.size w 13 y/\cr (λb=>d.ow b=-1/\¬r9 (As p s d) d.wo d.sl b) 13 y
 bd:eU p.lo (NB p s d) d.bo d.bn s.bonds w/\Aw s.bonds/\∀b,d.bo=some b->d.ow b=-2
 evr:w.ownsRow p.lo 54 7 d.ev d.es.length (d.es.flatMap IR)/\∀b,d.ev.ownBlock=some b->d.ow b=-3
 evt:d.es.map (λe=>(e.1,e.2.1,e.2.2.1,cn 13 e.2.2.2))=s.evs/\∀e∈d.es,(In w.heap.size w 13 e.2.2.2/\cr (λb=>d.ow b=-3/\d.ev.ownBlock≠some b) 13 e.2.2.2)/\wL e.2.2.2
theorem eX{D:aR}(c:bB S w w')(e:∀b,D b->¬S b){x:Tm n}(a:In w.heap.size w n x/\cr D n x):In w'.heap.size w' n x/\cr D n x:=
 ⟨(In.off (P:=λb=>D b/\b<w.heap.size) (λb d=>c.block b d.2 (e b d.1)) (In.offB a.2 a.1) a.1).mono c.size,a.2⟩
theorem GB(a:cZ l k=some b):(k,b)∈l:=by
 unfold cZ at a;cases c:l.find? (λe=>e.1==k)with
 | none=>rw[c]at a;cases a
 | some e=>
  rw[c]at a;have f:=List.mem_of_find?_eq_some c;have d:=List.find?_some c;simp at a d;subst a d;exact f
variable{s:Sy}{d:fY}{p:ke}
theorem bt.key(a:bt p s d w)(e:cZ d.l k=some b):1<=k/\k<=s.last:=by
 have c:k∈d.l.map (·.1):=cm.2 ⟨_,GB e,rfl⟩;rw[a.keys.1]at c;obtain⟨g,f,rfl⟩:=cm.1 c;exact a.keys.2.2.1 g f
theorem ii.turn{p:BL}{N:Nat}{f:Int×Int->List (Tm N)}{sl:Int×Int->av}(c:ii base p h n N f sl w)(o:bB S w w')(l:∀b,r9 p h sl b->b≠p.b->¬S b)(q:e.b=p.b)(j:tH e h w'):ii base e h n N f sl w':=by
 refine⟨by rw[q];exact c.1,j,?_⟩;rcases c.2.2 with a|⟨r,rfl,m⟩
 ·exact ai a
 ·refine aj ⟨r,rfl,m.kee o λb d=>l b (Ff d) λa=>?_⟩;rcases d with rfl|⟨k,g,i⟩
  ·exact wF c a.symm
  ·exact Ap c g (by rw[i,a])
theorem eU.turn{p:BL}{g:Int×Int->Bool}(a:eU base p h n g w)(j:bB S w w')(i:∀b:Nat,h=Option.some b->¬S b)(k:e.b=p.b)(f:tH e h w'):eU base e h n g w':=by
 refine⟨by rw[k];exact a.1,f,?_⟩;rcases a.2.2 with d|⟨c,rfl,l⟩
 ·exact ai d
 ·exact aj ⟨c,rfl,l.kee j (i c rfl)⟩
section
variable {p:ke} {s:Sy} {d:fY} {w w':ag} {ow:Nat->Int} {S:aR}
theorem bt.pgK(e:bt p s d w)(f:bB S w w')(g:∀b,d.ow b=-4->¬S b)(h:∀b,d.ow b≠0->ow b=d.ow b):gq (p.n+1) w'.heap.size w' p.pa p.prog/\tI (jX (p.n+1) λb=>ow b=-4) (λb=>ow b=-4) p.pa p.prog:=by
 have c:=cN (ed (p.n+1)) 2 (pN (p.n+1)) p.pa;exact⟨c.2.2.2.1 _ _ _ _ f.size (c.2.2.1 _ _ _ w' _ (λb a=>f.block b a.2 (g b a.1)) (c.2.1 _ _ _ _ e.pg.1.2 e.pg.1.1) e.pg.1.1),c.1 _ _ _ (λb a=>(h b (by rw[a];decide)).trans a) e.pg.1.2⟩
theorem bt.pmK(f:bt p s d w)(k:bB S w w')(j:∀b,d.ow b=-5->b≠p.b->¬S b)(m:∀b,d.ow b≠0->ow b=d.ow b):(d.po=none/\d.l=[])\/∃a,d.po=some a/\ow a=-5/\a≠p.b/\IM w' a d.l:=by
 rcases f.pm with g|⟨a,h,c,e,i⟩
 ·exact ai g
 ·exact aj ⟨a,h,(m a (by rw[c];decide)).trans c,e,i.kept (k.block a (f.low a (by rw[c];decide)).2 (j a c e))⟩
theorem bt.psK(f:bt p s d w)(c:bB S w w'){k:Int}{b j:Nat}(o:d.k<=j)(n:∀b,d.ow b=k->¬S b)(t:∀b,d.ow b≠0->ow b=d.ow b)(r:∀b,ow b≠0->p.lo<=b/\b<w'.heap.size)(g:cZ d.l k=some b):∃nm cs a,s.get k=some (nm,cs,a)/\P1 p.lo b nm p.room cs a (j+201) (λq=>ow q=k) w'/\a.length<=20:=by
 obtain⟨nm,cs,a,h,i,m⟩:=f.ps k b g;have u:=(f.key g).1;exact⟨nm,cs,a,h,(i.kept (S:=S) ⟨c.os,c.tape,c.output,c.size,c.block⟩ n).mono (λb e=>(t b (by rw[e];omega)).trans e) (Nat.add_le_add_right o 201) λb e=>r b (by rw[e];omega),m⟩
theorem bt.wyK(e:bt p s d w)(j:bB S w w')(i:∀b,d.ow b=-1->¬S b)(l:∀b,d.ow b≠0->ow b=d.ow b){q:BL}(m:q.b=p.b)(o:tH q d.wo w'):ii p.lo q d.wo d.wn 13 d.f d.sl w'/\(∀b,r9 q d.wo d.sl b->b=p.b\/ow b=-1)/\∀k,∀y∈d.f k,bE 13 y=0/\aS 13 y=true/\In w'.heap.size w' 13 y/\cr (λb=>ow b=-1/\¬r9 q d.wo d.sl b) 13 y:=by
 have h:∀b,r9 q d.wo d.sl b ↔ r9 (As p s d) d.wo d.sl b:=λb=>by
  unfold r9;rw[m];exact Iff.rfl
 refine⟨e.wy.1.turn j (λb c r=>?_) m o,λb c=>(e.wy.2.1 b ((h b).1 c)).imp id λa=>(l b (by rw[a];decide)).trans a,λk y t=>?_⟩
 ·rcases e.wy.2.1 b c with a|a
  ·exact absurd a r
  ·exact i b a
 ·obtain⟨y1,y2,u⟩:=e.wy.2.2.2.2 k y t;have n:=eX j (λb q=>i b q.1) u;exact⟨y1,y2,n.1,n.2.mono λb g=>⟨(l b (by rw[g.1];decide)).trans g.1,λc=>g.2 ((h b).1 c)⟩⟩
theorem bt.bdK(a:bt p s d w)(g:bB S w w')(f:∀b,d.ow b=-2->¬S b)(h:∀b,d.ow b≠0->ow b=d.ow b){q:BL}(i:q.b=p.b)(e:tH q d.bo w'):eU p.lo q d.bo d.bn s.bonds w'/\Aw s.bonds/\∀b,d.bo=some b->ow b=-2:=
 ⟨a.bd.1.turn g (λb c=>f b (a.bd.2.2 b c)) i e,a.bd.2.1,λb c=>(h b (by rw[a.bd.2.2 b c];decide)).trans (a.bd.2.2 b c)⟩
theorem bt.evK(c:bt p s d w)(h:bB S w w')(f:∀b,d.ow b=-3->¬S b)(i:∀b,d.ow b≠0->ow b=d.ow b):(w'.ownsRow p.lo 54 7 d.ev d.es.length (d.es.flatMap IR)/\∀b,d.ev.ownBlock=some b->ow b=-3)/\∀e∈d.es,(In w'.heap.size w' 13 e.2.2.2/\cr (λb=>ow b=-3/\d.ev.ownBlock≠some b) 13 e.2.2.2)/\wL e.2.2.2:=by
 refine⟨⟨bu c.evr.1 h λb a=>f b (c.evr.2 b a),λb a=>(i b (by rw[c.evr.2 b a];decide)).trans (c.evr.2 b a)⟩,λe g=>⟨?_,(c.evt.2 e g).2⟩⟩;have j:=eX h (λb a=>f b a.1) (c.evt.2 e g).1;exact⟨j.1,j.2.mono λb a=>⟨(i b (by rw[a.1];decide)).trans a.1,a.2⟩⟩
theorem qG{d:fY}{w:ag}(a:w.heap[p.b]?=some (.cells (eh p s d) 74)):tH (As p s d) d.wo w/\tH (NB p s d) d.bo w:=by
 refine⟨⟨⟨by simp[As,eh],by simp[As]⟩,?_⟩,⟨⟨by simp[NB,eh],by simp[NB]⟩,?_⟩⟩
 ·simp[As,eh,a]
 ·simp[NB,eh,a]
theorem bt.kept(a:bt p s d w)(c:bB S w w')(n:∀b,S b->d.ow b=0):bt p s d w':=by
 have j:∀b,d.ow b≠0->¬S b:=λb e r=>e (n b r);have f:∀b,d.ow b≠0->d.ow b=d.ow b:=λ_ _=>rfl;have h:w'.heap[p.b]?=some (.cells (eh p s d) 74):=(c.block p.b (aJ.1 a.box).1 (j p.b (by rw[a.own];decide))).trans a.box;have i:∀b,d.ow b≠0->p.lo<=b/\b<w'.heap.size:=λb e=>⟨(a.low b e).1,aW (a.low b e).2 c.size⟩;have t:∀{t:Int},t≠0->∀b,d.ow b=t->¬S b:=λo b g=>j b (by rw[g];exact o);obtain⟨y1,y2,q⟩:=a.wyK c (t (by decide)) f rfl (qG h).1;obtain⟨l,m⟩:=a.evK c (t (by decide)) f;exact⟨i,h,a.own,⟨a.pgK c (t (by decide)) f,a.pg.2⟩,a.pmK c (λb g _=>t (by decide) b g) f,a.keys,λk b e=>a.psK c (ao _) (t (by have:=(a.key e).1;omega)) f i e,⟨y1,y2,a.wy.2.2.1,a.wy.2.2.2.1,q⟩,a.bdK c (t (by decide)) f rfl (qG h).2,l,a.evt.1,m⟩
theorem bt.later(a:bt p s d w)(b:ak w w'):bt p s d w':=a.kept (aO b λ_=>False) λ_ q=>q.elim
end
def OW(f g:Int)(h:ap)(xa:aw)(i xc:Nat)(t:Tc)(w:ag):Prop:=
 ∀b,ak w b->am 56 #[.agg #[ab f,ab g,af h,ae xa i xc]] b λd c=>∃y0 y1 y2 ya yl yc,d=.returned (.agg #[ab y0,ab y1,af y2,ae ya yl yc])/\Hid (ak b c/\∃a:Tc,(a.1=(y0,y1,y2)/\a.2.1=(ya,yc)/\a.2.2.length=yl)/\(In c.heap.size c 13 a/\cr (λe=>b.heap.size<=e) 13 a)/\cn 13 a=t/\wL a)
theorem kB{m:Nat}{x:Tm (m+1)}(n:In w.heap.size w (m+1) x)(g:bE (m+1) x=0):OW x.1.1 x.1.2.1 x.1.2.2 x.2.1.1 x.2.2.length x.2.1.2 (cn (m+1) x) w:=λW f=>by
 have l:aI ⟨m+1,x⟩:=aT.2 (bG.1 g).1;refine(ip (m+1) x W.heap.size W ((n.below f).mono f.size) (ao _) l).mono ?_;rintro e w' ⟨y,rfl,H⟩;obtain⟨i,j,k,d⟩:=H;have a:bE (m+1) y=0:=(bV d).trans g;have c:aI ⟨m+1,y⟩:=aT.2 (bG.1 a).1;have b:fI (m+1) y<13:=by have:=(bG.1 a).2.1;omega
 have h:=jC 13 (m+1) y c b;refine⟨y.1.1,y.1.2.1,y.1.2.2,y.2.1.1,y.2.2.length,y.2.1.2,rfl,i,aY 13 (m+1) y,⟨rfl,rfl,by simp[aY]⟩,⟨sH 13 (m+1) y _ _ c b j,ue 13 (m+1) y _ c b k⟩,(io h).trans (io d),ai ((bV h).trans a)⟩
theorem Jn(w:ag):OW 0 0 ⟨#[]⟩ none 0 0 tF w:=λW h=>by
 refine(sy 12 0 0 ⟨#[]⟩ none 0 0 [] W (by decide) λw1 c=>?_).mono ?_
 ·refine(lM none 0 w1).mono ?_;rintro e w' ⟨rfl,rfl⟩;exact⟨none,0,[],rfl,aq _ _,rfl,ao _,aL _,rfl,ai rfl⟩
 ·rintro e w' ⟨a,b,l,rfl,H⟩;obtain⟨c,d,g,f,_⟩:=H;obtain rfl:l=[]:=bJ d;exact⟨0,0,⟨#[]⟩,a,0,b,rfl,c,((0,0,⟨#[]⟩),(a,b),[]),⟨rfl,rfl,rfl⟩,⟨⟨⟨show dC 0 by unfold dC;decide,show dC 0 by unfold dC;decide,show (0:Nat)<=maxLen from aL _,aL _,f⟩,ai rfl⟩,ai rfl⟩,rfl,aj ⟨rfl,rfl⟩⟩
def Fv(d:fY)(w w':ag)(t:Int)(q:Nat):Int:=if w.heap.size<=q/\q<w'.heap.size then t else d.ow q
theorem ui(a:bt p s d w)(e:w.heap.size<=w'.heap.size)(c:p.lo<=w.heap.size):∀b,Fv d w w' t b≠0->p.lo<=b/\b<w'.heap.size:=λb q=>by
 unfold Fv at q;split at q
 ·omega
 ·have:=a.low b q;omega
theorem uj(a:bt p s d w):∀b,d.ow b≠0->Fv d w w' t b=d.ow b:=λb q=>by
 have:=(a.low b q).2;exact if_neg (by omega)
theorem bt.lo{p:ke}{s:Sy}{d:fY}{w:ag}(a:bt p s d w):p.lo<=w.heap.size/\p.b<w.heap.size:=by
 have:=a.low p.b (by rw[a.own];decide);omega
def yJ(p:ke)(s:Sy)(d:fY)(wt:ap)(a b:Int)(t:Tc)(w w':ag):Prop:=
 ∃e f,bt p (s.tell wt a b t) {d with ow:=Fv d w w' (-3),ev:=e,es:=d.es++ [(wt,a,b,f)]} w'/\bB (λc=>c=p.b\/d.ow c=-3) w w'
theorem bt.tell{p:ke}{s:Sy}{d:fY}{w:ag}(h:bt p s d w)(wt:ap)(a b V W:Int)(X:ap)(xa:aw)(Y xc:Nat)(t:Tc)(aG:OW V W X xa Y xc t w)(aF:d.es.length<=100000):am 46 #[aH p.b,af wt,ab a,ab b,.agg #[ab V,ab W,af X,ae xa Y xc]] w λe w'=>e=.returned (.tuple #[])/\Hid (yJ p s d wt a b t w w'):=by
 obtain⟨aa,ar⟩:=h.lo;obtain⟨y,z,m⟩:∃y z,d.ev=ae y d.es.length z:=by
  rcases h.evr.1.2 with⟨e,aD⟩|⟨g,c,aT,e,_⟩
  ·exact⟨none,0,by rw[e,aD]⟩
  ·exact⟨_,c,e⟩
 have O:=h.box;have I:d.ev.ownBlock≠some p.b:=λe=>by
  have u:=h.evr.2 _ e;rw[h.own]at u;cases u
 have aq:=h.evr.1;rw[m]at aq I;refine(Es p.lo p.b wt a b V W X xa Y xc y d.es.length z _ (λK w' y0 y1 y2 ya yl yc=>∃l:Tc,(l.1=(y0,y1,y2)/\l.2.1=(ya,yc)/\l.2.2.length=yl)/\(In w'.heap.size w' 13 l/\cr (λf=>K.heap.size<=f) 13 l)/\cn 13 l=t/\wL l) w aF ar aa ⟨?_,by simp[World.frozen?,O]⟩ aq I aG).mono ?_
 ·have u:=ah O 6;simp only[eh,cW,dm]at u;rw[m]at u;exact u
 rintro e w' ⟨rfl,ax⟩;obtain⟨g,c,q,x,K,L,y0,y1,y2,ya,yl,yc,R,aP,⟨l,⟨M,N,aE⟩,Q,aI,aL⟩,S,au,J⟩:=ax;have H:ak w L:=R.trans (aP.mono R.size);have P:bB (λaS=>(Value.slice y d.es.length z).ownBlock=some aS) w q:=(aO H _).trans S λ_ _ e=>e;have o:bB (λf=>f=p.b\/d.ow f=-3) w w':=by
  rw[x];refine(P.mono (T:=λf=>f=p.b\/d.ow f=-3) λf _ e=>aj (h.evr.2 f (by rw[m];exact e))).trans (bH q p.b 6 _) λf _ e=>ai e
 have aN:=o.size;have aX:w'.heap.size=q.heap.size:=by rw[x];simp[World.setCell]
 have Z:w'.heap[p.b]?=some (.cells (eh p (s.tell wt a b t) {d with ow:=Fv d w w' (-3),ev:=ae (some ⟨g,0,none⟩) (d.es.length+1) c,es:=d.es++ [(wt,a,b,l)]}) 74):=by
  have v:q.heap[p.b]?=some (.cells (eh p s d) 74):=(P.block p.b ar I).trans O;rw[x];simp[World.setCell,bO,v,eh,Sy.tell]
 have ad:=ui (t:=-3) h aN aa;have n:=uj (w':=w') (t:=-3) h;have G:∀{U:Int},U≠ -3->U≠ -5->∀f,d.ow f=U->¬(f=p.b\/d.ow f=-3):=λF v f e i=>by
  rcases i with rfl|i
  ·rw[h.own]at e;exact v e.symm
  ·exact F (e.symm.trans i)
 have an:∀f,w.heap.size<=f->f<w'.heap.size->Fv d w w' (-3) f=-3:=λf ay az=>if_pos ⟨ay,az⟩;obtain⟨aB,aC⟩:=qG Z;obtain⟨E,j,r⟩:=h.wyK o (G (by decide) (by decide)) n rfl aB;refine⟨rfl,ae (some ⟨g,0,none⟩) (d.es.length+1) c,l,⟨ad,Z,(n p.b (by rw[h.own];decide)).trans h.own,⟨h.pgK o (G (by decide) (by decide)) n,h.pg.2⟩,h.pmK o (λf M N i=>?_) n,h.keys,λk b f=>h.psK o (ao _) (G (by have:=(h.key f).1;omega) (by have:=(h.key f).1;omega)) n ad f,⟨E,j,h.wy.2.2.1,h.wy.2.2.2.1,r⟩,h.bdK o (G (by decide) (by decide)) n rfl aC,⟨?_,λf e=>?_⟩,?_,λe A=>?_⟩,o⟩
 ·rcases i with i|i
  ·exact N i
  ·rw[M]at i;cases i
 ·have e:[(wt,a,b,l)].flatMap IR=[af wt,ab a,ab b,ab y0,ab y1,af y2,ae ya yl yc]:=by simp[IR,M,N,aE]
  have v:w'.ownsRow p.lo 54 7 (ae (some ⟨g,0,none⟩) (d.es.length+1) c) (d.es.length+1) (d.es.flatMap IR++ [(wt,a,b,l)].flatMap IR):=by
   rw[e,x];refine bu au (bH q p.b 6 _) λf aM i=>?_;have:g=f:=aA aM;subst this i;rcases J with i|i
   ·exact I i
   ·have:=H.size;omega
  rw[<-kO]at v;simpa using v
 ·have B:g=f:=aA e;subst B;rcases J with i|i
  ·have F:=h.evr.2 g (by rw[m];exact i);exact(n g (by rw[F];decide)).trans F
  ·have:=H.size;have:=(au.lt g rfl).2;exact an g (by omega) (by omega)
 ·show _=s.evs++ [(wt,a,b,t)];rw[iD,h.evt.1,aU,ci,aI]
 ·have aK:bB (λf=>f=p.b\/d.ev.ownBlock=some f) w w':=by
    rw[x,m];exact(P.mono (T:=λf=>f=p.b\/(Value.slice y d.es.length z).ownBlock=some f) λf _ e=>aj e).trans (bH q p.b 6 _) λf _ e=>ai e
  have aJ:bB (λf=>f=p.b\/d.ev.ownBlock=some f) L w':=by
   rw[x,m];exact(S.mono (T:=λf=>f=p.b\/(Value.slice y d.es.length z).ownBlock=some f) λf _ e=>aj e).trans (bH q p.b 6 _) λf _ e=>ai e
  have aW:=H.size;rcases dr.1 A with A|A
  ·obtain⟨⟨av,aQ⟩,aR⟩:=h.evt.2 e A;refine⟨?_,aR⟩;have C:=eX aK (D:=λf=>(d.ow f=-3/\d.ev.ownBlock≠some f)/\f<w.heap.size) (λf E j=>?_) ⟨av,In.offB aQ av⟩
   ·refine⟨C.1,C.2.mono λf i=>⟨(n f (by rw[i.1.1];decide)).trans i.1.1,λj=>?_⟩⟩;have B:g=f:=aA j;subst B;rcases J with r|r
    ·exact i.1.2 (by rw[m];exact r)
    ·omega
   ·rcases j with rfl|j
    ·have:=E.1.1;rw[h.own]at this;cases this
    ·exact E.1.2 j
  ·obtain rfl:=dS.1 A;refine⟨?_,aL⟩;have aV:=R.size;have al:∀f,d.ev.ownBlock=some f->f<w.heap.size:=λf i=>(h.evr.1.lt f i).2;have C:=eX aJ (D:=λf=>K.heap.size<=f/\f<L.heap.size) (λf E j=>?_) ⟨Q.1,In.offB Q.2 Q.1⟩
   ·have:=S.size;refine⟨C.1,C.2.mono λf i=>⟨an f (by omega) (by omega),λj=>?_⟩⟩;have B:g=f:=aA j;subst B;rcases J with r|r
    ·have:=al g (by rw[m];exact r);omega
    ·omega
   ·rcases j with rfl|j
    ·omega
    ·have:=al f j;omega
theorem PX{a b c d:av}{T:TypeId}{fr:Nat×Nat}(e:w.heap[q]?=some (.cells #[a,b,c,d] T fr)):w.cell? ⟨q,0,none⟩=some a/\w.cell? ⟨q,1,none⟩=some b/\w.cell? ⟨q,2,none⟩=some c/\w.cell? ⟨q,3,none⟩=some d:=by simp[World.cell?,e]
theorem GA{ps:List (Int×ap×Tc×List Tc)}(k:Int)(a:l.map (·.1)=ps.map (·.1)):(cZ l k).isSome=((ps.find? λp=>p.1==k).map (·.2)).isSome:=by
 induction l generalizing ps with
 | nil=>
  cases ps with
  | nil=>rfl
  | cons b ps=>simp at a
 | cons c l ih=>
  cases ps with
  | nil=>simp at a
  | cons b ps=>
   simp only[aU,kN]at a;have ih:=ih a.2;unfold cZ at ih ⊢;rw[jL,jL,a.1];cases b.1==k
   ·exact ih
   ·rfl
section
variable {p:ke} {s:Sy} {d:fY} {w:ag}
theorem bt.alive(a:bt p s d w)(k:Int):(cZ d.l k).isSome=(s.get k).isSome:=GA k a.keys.1
theorem bt.look(g:bt p s d w)(k:Int)(c:Bool):(Instr.lookup 67 (.map d.po) (ab k) c).run Tryz.prog w=.ok (if c then .tuple #[match cZ d.l k with|some b=>Ar b|none=> .pointer none,.bool (cZ d.l k).isSome]else match cZ d.l k with|some b=>Ar b|none=> .pointer none) w:=by
 rcases g.pm with⟨a,f⟩|⟨j,a,_,_,f⟩
 ·rw[a,f];have:=Dt w k c;cases c<;>exact this
 ·rw[a];obtain⟨h,i⟩:=f.look k c;cases e:cZ d.l k with
  | none=>
   rw[h e];cases c<;>rfl
  | some b=>
   rw[i b e];cases c<;>rfl
theorem bt.cells(c:bt p s d w):w.cell? ⟨p.b,0,none⟩=some (ae p.pa p.prog.length p.pc)/\w.cell? ⟨p.b,1,none⟩=some (ab p.room)/\w.cell? ⟨p.b,2,none⟩=some (ab s.last)/\w.cell? ⟨p.b,3,none⟩=some (.map d.po):=by
 have a:=c.box;exact⟨ah a 0,ah a 1,ah a 2,ah a 3⟩
theorem bt.isAlive(a:bt p s d w)(k:Int):am 51 #[aH p.b,ab k] w λe w'=>e=.returned (.bool (s.get k).isSome)/\w'=w:=by
 have i:=a.cells.2.2.2;have f:=a.look k true;rw[if_pos rfl]at f;have c:=a.alive k;obtain⟨h,g⟩:∃h,h=(s.get k).isSome:=⟨_,rfl⟩;rw[<-g]at c ⊢;rw[c]at f;generalize (match cZ d.l k with|some b=>Ar b|none=> .pointer none)=j at f;clear c g;generalize d.po=mo at*;clear a;go_enter func51,ntmps51;go_wp2_with fail
 go_ret
 exact⟨rfl,rfl⟩
theorem bt.len(c:bt p s d w)(ty:TypeId):(Builtin.len_ #[67] ty #[.map d.po]).run Tryz.prog w=.ok (ab s.ps.length) w:=by
 have e:d.l.length=s.ps.length:=by
  have:=congrArg List.length c.keys.1;simpa using this
 rcases c.pm with⟨a,b⟩|⟨f,a,_,_,b⟩
 ·rw[a,<-e,b];exact Maps.len_nil underlying67 ty
 ·rw[a,<-e];exact wH.len b underlying67 ty
theorem bt.mayHave(c:bt p s d w)(n:Nat)(r:n<=1000):am 40 #[aH p.b,ab n] w λe w'=>e=.returned (.bool (s.may n))/\w'=w:=by
 obtain⟨_,_,k,l⟩:=c.cells;have q:=c.len 3;obtain⟨_,_,_,t,u,v⟩:=c.keys;obtain⟨j,a⟩:∃j,j=s.may n:=⟨_,rfl⟩;rw[<-a];unfold Sy.may at a;generalize s.last=h at*;generalize s.ps.length=f at*;generalize d.po=mo at*;clear c;have m:IntKind.i64.wrap ((f:Int)+n)=(f:Int)+n:=by rw[IntKind.wrap];simp[IntKind.bits,IntKind.signed];omega
 have o:IntKind.i64.wrap (h+n)=h+n:=by rw[IntKind.wrap];simp[IntKind.bits,IntKind.signed];omega
 go_enter func40,ntmps40;by_cases g:(f:Int)+n<=12
 ·by_cases i:h+n<=90
  ·rw[ie g,ie i]at a;subst a;go_wp2_with fail
   go_ret
   exact⟨rfl,rfl⟩
  ·rw[ie g,decide_eq_false i]at a;subst a;go_wp2_with fail
   go_ret
   exact⟨rfl,rfl⟩
 ·rw[decide_eq_false g]at a;subst a;go_wp2_with fail
  go_ret
  exact⟨rfl,rfl⟩
theorem DC(n:Nat)(nm:ap)(l:List (Bh n))(q:aw)(F len B r:Nat)(w:ag)(J:l.length=len)(K:len<=9223372036854775807)(C:B<=w.heap.size)(_hsb:r<w.heap.size)(v:Hid (w.cell? ⟨r,0,none⟩=some (ae q len F)))(y:Hid (gq n B w q l)):am 41 #[aH r,af nm] w λe w'=>e=.returned (.bool (gj n nm l).isSome)/\ak w w':=by
 have H:=v.out;go_enter func41,ntmps41;go_wp2_with fail;go_loopw [12] (λm wr=>∃a:Nat,a<=len/\m=ab a/\Hid (ak w wr/\gj n nm l=gj n nm (l.drop a))) (λm _=>len-(intOf m).toNat)
 case atStart=>exact⟨0,by omega,rfl,aq _ _,rfl⟩
 case round=>
 obtain⟨a,I,rfl,c⟩:=hrel;by_cases L:a<len
 ·obtain⟨b,d⟩:∃b,l[a]?=some b:=⟨l[a]'(by omega),aM _⟩;obtain⟨j,lo,rfl,E,x⟩:∃g o,q=some ⟨g,o,none⟩/\g<B/\Hid (∀(t:Nat)(f:av),(pN n b)[t]?=some f->w.cell? ⟨g,o+a*2+t,none⟩=some f):=by
   rcases y with e|⟨g,o,e,D,A⟩
   ·rw[e]at d;simp at d
   ·exact⟨g,o,e,D,(A a _ d).1⟩
  have h:∀(t:Nat)(f:av),(pN n b)[t]?=some f->wr.cell? ⟨j,lo+a*2+t,none⟩=some f:=λt f u=>(c.1.cell (p:=⟨j,lo+a*2+t,none⟩) (aW E C)).trans (x t f u);have G:wr.cell? ⟨j,lo+a*2,none⟩=some (af b.1):=h 0 _ rfl;have O:wr.cell? ⟨j,lo+a*2+1,none⟩=some (ae b.2.1.1 b.2.2.length b.2.1.2):=h 1 _ rfl;have M:(0:Int)<=(a:Int):=by omega
  have N:(a:Int)<(len:Int):=by omega
  have s:Hid (∀o,ak w (wr.alloc o)):=λo=>c.1.alloc c.1.size o;by_cases i:b.1=nm
  ·have k:Hid (gj n nm l=some b):=by
     show _=_;rw[c.out.2,oN n nm d,if_pos i]
   rw[i]at G;clear h c d;go_wp2_with fail
   go_ret
   exact⟨bU (by rw[k.out];rfl),s _⟩
  ·have k:Hid (gj n nm l=gj n nm (l.drop (a+1))):=by
     show _=_;rw[c.out.2,oN n nm d,if_neg i]
   have u:(b.1.toList==nm.toList)=false:=by
    rw[iH];intro e;rw[cE,cE]at e;exact i (ByteArray.ext (Array.ext' e))
   clear h c d;go_wp2_with fail;go_roundw
   case rel=>exact⟨a+1,by omega,by go_num,s _,k⟩
   case measure=>simp[intOf];omega
 ·obtain rfl:a=len:=by omega
  have z:Hid (gj n nm l=none):=by
   show _=_;rw[c.out.2,px (by omega)];rfl
  have HB:=au c.1;clear c;go_wp2_with fail
  go_ret
  exact⟨bU (by rw[z.out];rfl),HB⟩
theorem bt.knows(a:bt p s d w)(nm:ap):am 41 #[aH p.b,af nm] w λe w'=>e=.returned (.bool (lu p.n p.prog nm))/\ak w w':=
 DC (p.n+1) nm p.prog p.pa p.pc p.prog.length w.heap.size p.b w rfl (aD a.pg.2.1 a.pg.2.2.1) (ao _) a.lo.2 a.cells.1 a.pg.1.1
end
theorem oo{g:Type}{k j:Int}(d:j≠k):(l:List (Int×g))->(l.eraseP λp=>p.1==k).find? (λp=>p.1==j)=l.find? λp=>p.1==j
 | []=>rfl
 | a::l=>by
  rw[List.eraseP_cons];by_cases b:a.1=k
  ·have c:(a.1==k)=true:=by simpa using b
   have f:(a.1==j)=false:=by simp[b];exact λe=>d e.symm
   simp[c,f]
  ·have c:(a.1==k)=false:=by simpa using b
   simp only[c,cond_false,jL];rw[oo d l]
theorem xu{g:Type}{k:Int}:(l:List (Int×g))->(l.map (·.1)).Nodup->(l.eraseP λp=>p.1==k).find? (λp=>p.1==k)=none
 | [],_=>rfl
 | a::l,hn=>by
  rw[aU,mZ]at hn;rw[List.eraseP_cons];by_cases b:a.1=k
  ·have c:(a.1==k)=true:=by simpa using b
   simp only[c,cond_true];refine py.2 λf e=>?_;simp only[cF];intro d;exact hn.1 (cm.2 ⟨f,e,d.trans b.symm⟩)
  ·have c:(a.1==k)=false:=by simpa using b
   simp only[c,cond_false,jL];exact xu l hn.2
def dX(a:Nat)(d b:fY)(w w':ag):Prop:=bB (λq=>d.ow q<0) w w'/\(∀q,q<w.heap.size->b.ow q=d.ow q)/\b.k=d.k/\b.es.length<=d.es.length+a/\b.wn<=d.wn+a/\b.bn<=d.bn+a
theorem dX.trans{a b:Nat}{d d1 f:fY}{w w1 w2:ag}(j:dX a d d1 w w1)(k:dX b d1 f w1 w2):dX (a+b) d f w w2:=by
 obtain⟨h,i,l,p,q,r⟩:=j;obtain⟨m,n,o,t,u,v⟩:=k;have s:=h.size;exact⟨h.trans m λc e g=>by rw[i c e]at g;exact g,λc e=>(n c (by omega)).trans (i c e),o.trans l,by omega,by omega,by omega⟩
theorem dX.mono{a:Nat}{d1:fY}(c:dX a d d1 w w1)(k:a<=b):dX b d d1 w w1:=by
 obtain⟨e,f,g,h,i,j⟩:=c;exact⟨e,f,g,by omega,by omega,by omega⟩
theorem dX.later(d:fY)(a:ak w w1):dX 0 d d w w1:=⟨aO a _,λ_ _=>rfl,rfl,ao _,ao _,ao _⟩
theorem yJ.up{wt:ap}{a b:Int}{t:Tc}(f:bt p s d w)(k:yJ p s d wt a b t w w'):∃e,bt p (s.tell wt a b t) e w'/\dX 1 d e w w':=by
 obtain⟨l,m,g,h⟩:=k;refine⟨_,g,h.mono λi _ c=>?_,λi j=>if_neg (by omega),rfl,by simp,fX _,fX _⟩;rcases c with c|c
 ·rw[c,f.own];decide
 ·rw[c];decide
section
variable {p:ke} {s:Sy} {d:fY} {w:ag}
theorem bt.del(a:bt p s d w)(k:Int):∃w',(∀ty,(Builtin.delete_ #[67,3] ty #[.map d.po,ab k]).run Tryz.prog w=.ok (.tuple #[]) w')/\bt p {s with ps:=s.ps.eraseP λq=>q.1==k} {d with l:=d.l.eraseP λq=>q.1==k} w'/\bB (λq=>d.ow q=-5/\q≠p.b) w w':=by
 have J:(d.l.eraseP λq=>q.1==k).map (·.1)=(s.ps.eraseP λq=>q.1==k).map (·.1):=by
  have e:=congrArg (λl=>l.eraseP (λq=>q==k)) a.keys.1;simpa [List.eraseP_map,Function.comp_def]using e
 obtain⟨E,u,F,G,H,I⟩:=a.keys;have L:(d.l.map (·.1)).Nodup:=by rw[E];exact u
 have v:∀(w':ag),bB (λq=>d.ow q=-5/\q≠p.b) w w'->((d.po=none/\d.l.eraseP (λq=>q.1==k)=[])\/∃h,d.po=some h/\d.ow h=-5/\h≠p.b/\IM w' h (d.l.eraseP λq=>q.1==k))->bt p {s with ps:=s.ps.eraseP λq=>q.1==k} {d with l:=d.l.eraseP λq=>q.1==k} w':=λw' c M=>by
  have i:∀b,d.ow b≠0->d.ow b=d.ow b:=λ_ _=>rfl;have y:∀b,d.ow b≠0->p.lo<=b/\b<w'.heap.size:=λb q=>⟨(a.low b q).1,aW (a.low b q).2 c.size⟩;have m:w'.heap[p.b]?=some (.cells (eh p s d) 74):=(c.block p.b a.lo.2 λn=>n.2 rfl).trans a.box;have t:∀{t:Int},t≠ -5->∀b,d.ow b=t->¬(d.ow b=-5/\b≠p.b):=λO b e n=>O (e.symm.trans n.1);obtain⟨y1,y2,T⟩:=a.wyK c (t (by decide)) i rfl (qG m).1;obtain⟨f,g⟩:=a.evK c (t (by decide)) i;refine⟨y,m,a.own,⟨a.pgK c (t (by decide)) i,a.pg.2⟩,M,⟨J,?_,λq N=>F q (List.mem_of_mem_eraseP N),G,H,?_⟩,λj b q=>?_,⟨y1,y2,a.wy.2.2.1,a.wy.2.2.2.1,T⟩,a.bdK c (t (by decide)) i rfl (qG m).2,f,a.evt.1,g⟩
  ·exact(u.sublist ((List.eraseP_sublist (l:=s.ps) (p:=λq=>q.1==k)).map _))
  ·exact aD (List.length_eraseP_le) I
  ·have x:j≠k:=λe=>by
     subst e;have:cZ (d.l.eraseP λq=>q.1==j) j=none:=by unfold cZ;rw[xu d.l L];rfl
     rw[this]at q;cases q
   have z:cZ d.l j=some b:=by
    unfold cZ at q ⊢;rw[oo x]at q;exact q
   obtain⟨P,B,A,r,D⟩:=a.psK c (ao _) (t (by have:=(a.key z).1;omega)) i y z;refine⟨P,B,A,?_,D⟩;unfold Sy.get at r ⊢;rw[oo x];exact r
 rcases a.pm with⟨f,g⟩|⟨h,f,g,o,C⟩
 ·refine⟨w,?_,v w (bB.refl _ _) (ai ⟨f,by rw[g];rfl⟩),bB.refl _ _⟩;have K:=underlying67;intro ty;rw[f];simp[Builtin.delete_,cC K,lm,Result.andThen]
 ·obtain⟨w',Q,R,S,_⟩:=wH.del C underlying67 k;have c:bB (λq=>d.ow q=-5/\q≠p.b) w w':=S.mono λq _ e=>by rw[e];exact⟨g,o⟩
  exact⟨w',λty=>by rw[f];exact Q ty,v w' c (aj ⟨h,f,g,o,R⟩),c⟩
theorem Gl(a:Nat)(mo:Option Nat)(x how:Int)(w w1:ag)(R:ag->Prop)(d:Hid (w.cell? ⟨a,3,none⟩=some (.map mo)))(h:∀ty,(Builtin.delete_ #[67,3] ty #[.map mo,ab x]).run Tryz.prog w=.ok (.tuple #[]) w1)(f:Hid (am 46 #[aH a,af ⟨#[101,110,100]⟩,ab x,ab how,.agg #[ab 0,ab 0,af ⟨#[]⟩,ae none 0 0]] w1 λe w'=>e=.returned (.tuple #[])/\R w')):am 80 #[aH a,ab x,ab how] w λe w'=>e=.returned (.tuple #[])/\R w':=by
 have g:=d.out;go_enter func80,ntmps80;go_wp2_with fail;refine f.mono ?_;rintro e i ⟨rfl,b⟩;have c:=au b;clear b;go_wp2_with fail;exact dn (v:=.tuple #[]) (by simp[results]) rfl ⟨rfl,c⟩
theorem bt.drop(g:bt p s d w)(x how:Int)(k:d.es.length<=100000):am 80 #[aH p.b,ab x,ab how] w λe w'=>e=.returned (.tuple #[])/\Hid (∃c,bt p (s.drop x how) c w'/\dX 1 d c w w'):=by
 obtain⟨f,m,h,n⟩:=g.del x;refine Gl p.b d.po x how w f _ g.cells.2.2.2 m ((h.tell Nx x how 0 0 ⟨#[]⟩ none 0 0 tF (Jn f) k).mono λe w' a=>⟨a.1,?_⟩);obtain⟨c,i,j⟩:=a.2.up h;have o:dX 0 d {d with l:=d.l.eraseP λa=>a.1==x} w f:=⟨n.mono λa _ e=>by rw[e.1];decide,λ_ _=>rfl,rfl,ao _,ao _,ao _⟩;exact⟨c,i,(o.trans j).mono (ao _)⟩
end
theorem MK{e:TypeId}{sz:Nat}{xs:List av}(b:w.ownsRow base e sz v n xs):∃a c,v=ae a n c:=by
 rcases b.2 with⟨rfl,rfl⟩|⟨f,c,d,rfl,_⟩
 ·exact⟨none,0,rfl⟩
 ·exact⟨_,c,rfl⟩
section
variable {p:ke} {s:Sy} {d:fY} {w:ag}
theorem bt.parted(a:bt p s d w){x:Int}(u:dC x)(h:Bool):am 81 #[.pointer (some ⟨p.b,5,none⟩),ab x,.bool h] w λe w'=>∃v,e=.returned v/\Hid (iL w.heap.size v (uP s.bonds x h) w'/\bt p {s with bonds:=wo s.bonds (x::uP s.bonds x h)} d w'/\dX 0 d d w w'):=by
 refine(I6 a.bd.1 a.bd.2.1 u h).mono ?_;rintro e w' ⟨v,rfl,l⟩;obtain⟨o,q,c⟩:=l;have f:∀b,d.ow b≠0->d.ow b=d.ow b:=λ_ _=>rfl;have j:∀b,d.ow b≠0->p.lo<=b/\b<w'.heap.size:=λb g=>⟨(a.low b g).1,aW (a.low b g).2 c.size⟩;have t:∀{t:Int},t≠ -2->∀b,d.ow b=t->¬d.bo=some b:=λr b e z=>r (e.symm.trans (a.bd.2.2 b z));have i:w'.heap[p.b]?=some (.cells (eh p s d) 74):=(c.block p.b a.lo.2 (t (by decide) p.b a.own)).trans a.box;obtain⟨y1,y2,y⟩:=a.wyK c (t (by decide)) f rfl (qG i).1;obtain⟨m,n⟩:=a.evK c (t (by decide)) f;exact⟨v,rfl,o,⟨j,i,a.own,⟨a.pgK c (t (by decide)) f,a.pg.2⟩,a.pmK c (λb e _=>t (by decide) b e) f,a.keys,λk b g=>a.psK c (ao _) (t (by have:=(a.key g).1;omega)) f j g,⟨y1,y2,a.wy.2.2.1,a.wy.2.2.2.1,y⟩,⟨q,a.bd.2.1.wo _,a.bd.2.2⟩,m,a.evt.1,n⟩,c.mono λb _ e=>by rw[a.bd.2.2 b e];decide,λ_ _=>rfl,rfl,ao _,ao _,ao _⟩
theorem Me{g:Int×Int->Bool}(b:Aw g)(x:Int)(a:Bool):(uP g x a).length<=99:=by
 unfold uP;split
 ·simp
 ·exact(Ey b x).le
theorem JA(b:Nat)(x how:Int)(w:ag)(l:List Int)(L:Nat)(h:Bool)(R:aw->Nat->Nat->ag->Prop)(D:L<=99)(z:Hid (l.length=L))(s:h=(how==1))(o:Hid (am 80 #[aH b,ab x,ab how] w λe w'=>e=.returned (.tuple #[])/\Hid (am 81 #[.pointer (some ⟨b,5,none⟩),ab x,.bool h] w' λe w'=>∃a c,e=.returned (ae a L c)/\Hid (R a c 0 w'))))(A:Hid (∀a c j W,R a c j W->(∀(i:Nat)(k:Int),l[i]?=some k->∃g,a=some ⟨g,0,none⟩/\W.cell? ⟨g,i,none⟩=some (ab k))/\∀y,l[j]?=some y->am 80 #[aH b,ab y,ab 4] W λe w'=>e=.returned (.tuple #[])/\Hid (R a c (j+1) w'))):am 48 #[aH b,ab x,ab how] w λe w'=>e=.returned (.tuple #[])/\Hid (∃a c,R a c L w'):=by
 go_enter func48,ntmps48;go_wp2_with fail;refine o.mono ?_;rintro e I ⟨rfl,n⟩;have E:(how==1)=h:=s.symm;clear o s;go_wp2_with fail;refine n.mono ?_;rintro e J ⟨a,c,rfl,d⟩;clear n;go_wp2_with fail;go_loopw [7,20] (λ_ i wr=>∃j:Nat,j<=L/\i=ab j/\Hid (R a c j wr)) (λ_ i _=>L-(intOf i).toNat)
 case atStart=>exact⟨0,aL _,rfl,d⟩
 case round=>
 obtain⟨j,F,rfl,f⟩:=hrel;by_cases C:j<L
 ·obtain⟨y,m⟩:∃y,l[j]?=some y:=⟨l[j]'(by rw[z.out];exact C),aM _⟩;obtain⟨q,r⟩:=A a c j wr f;obtain⟨g,rfl,B⟩:=q j y m;have p:=au (r y m);have G:(0:Int)<=(j:Int):=by omega
  have H:(j:Int)<(L:Int):=by omega
  clear q r m d;go_wp2_with fail;refine p.mono ?_;rintro e K ⟨rfl,t⟩;clear p B;go_wp2_with fail;go_roundw
  case rel=>exact⟨j+1,by omega,by go_num,t⟩
  case measure=>simp[intOf];omega
 ·obtain rfl:j=L:=by omega
  have u:=au f.out;clear f d;go_wp2_with fail;exact dn (v:=.tuple #[]) (by simp[results]) rfl ⟨rfl,a,c,u⟩
theorem bt.fin(F:bt p s d w){x how:Int}(P:dC x)(af:d.es.length<=99000):am 48 #[aH p.b,ab x,ab how] w λe w'=>e=.returned (.tuple #[])/\Hid (∃h,bt p (s.fin x how) h w'/\dX 100 d h w w'):=by
 have I:=Me F.bd.2.1 x (how==1);obtain⟨l,z⟩:∃l,l=uP s.bonds x (how==1):=⟨_,rfl⟩;rw[<-z]at I;refine(JA p.b x how w l l.length (how==1) (λf c B n=>∃h base,bt p ((l.take B).foldl (λs D=>s.drop D 4) {s.drop x how with bonds:=wo s.bonds (x::l)}) h n/\dX (1+B) d h w n/\iL base (ae f l.length c) l n/\∀a,(Value.slice f l.length c).ownBlock=some a->h.ow a=0) I rfl rfl ?_ ?_).mono ?_
 ·refine(F.drop x how (by omega)).mono ?_;rintro e aj ⟨rfl,m⟩;obtain⟨d1,G,T⟩:=m.out;refine⟨rfl,(G.parted P (how==1)).mono ?_⟩;rintro e ak ⟨U,rfl,L⟩;obtain⟨v,K,S⟩:=L;have i:(s.drop x how).bonds=s.bonds:=rfl;rw[i,<-z]at v K;obtain⟨f,c,rfl⟩:∃f c,U=ae f l.length c:=MK v;refine⟨f,c,rfl,d1,_,K,(T.trans S).mono (by omega),v,λa A=>?_⟩;have ad:=(v.lt a A).1;by_cases H:d1.ow a=0
  ·exact H
  ·have:=(G.low a H).2;omega
 ·rintro f c B n ⟨h,base,r,t,u,E⟩;refine⟨λQ k o=>?_,λD J=>?_⟩
  ·obtain⟨W,X,e,q⟩:=u.row;injection e with i _ y;subst i y;rcases u.2 with⟨e,N⟩|⟨g,Y,Z,e,_⟩
   ·rw[bJ N]at o;simp at o
   ·injection e with i _ y;subst i y;rcases q with q|⟨aa,ai,e,ah,q⟩
    ·rw[q]at o;simp at o
    ·injection e with e;injection e with i O;subst i O;have:=q Q k o;rw[de]at this;exact⟨_,rfl,this⟩
  ·have ag:=(aX.1 J).1;refine(r.drop D 4 (by have:=t.2.2.2.1;omega)).mono ?_;rintro e w' ⟨rfl,m⟩;obtain⟨M,R,C⟩:=m.out;have A:∀a,(Value.slice f l.length c).ownBlock=some a->a<n.heap.size:=λa j=>(u.lt a j).2;refine⟨rfl,M,base,?_,(t.trans C).mono (by omega),bu u C.1 λa j V=>by rw[E a j]at V;omega,λa j=>(C.2.1 a (A a j)).trans (E a j)⟩;rw[dz,J,jo];exact R
 ·rintro e w' ⟨rfl,m⟩;obtain⟨f,c,h,base,r,t,_⟩:=m;refine⟨rfl,h,?_,t.mono (by omega)⟩;rw[bF (ao _)]at r;unfold Sy.fin;rw[<-z];exact r
end
section
variable {p:ke} {s:Sy} {d:fY} {w:ag}
theorem bt.linkB(c:bt p s d w){x y:Int}(I:dC x)(J:dC y)(E:d.bn<1000000):am 122 #[.pointer (some ⟨p.b,5,none⟩),ab x,ab y] w λe w'=>e=.returned (ab (vq x y))/\Hid (∃o,bt p {s with bonds:=if vq x y=0 then iN s.bonds (jc x y) true else s.bonds} o w'/\dX 1 d o w w'):=by
 refine(FZ c.bd.1 I J E).mono ?_;rintro e w' ⟨rfl,z⟩;obtain⟨mo,f,g,C⟩:=z;have G:=g.size;have i:∀b,LS (NB p s d) d.bo b->b=p.b\/d.ow b=-2:=λb e=>e.imp id (c.bd.2.2 b);have F:mo≠some p.b:=λe=>by
  subst e;exact f.ne rfl
 have t:∀{t:Int},t≠ -2->t≠ -5->∀b,d.ow b=t->¬LS (NB p s d) d.bo b:=λf D b e a=>by
  rcases i b a with a|a
  ·rw[a,c.own]at e;exact D e.symm
  ·exact f (e.symm.trans a)
 have q:w'.heap[p.b]?=some (.cells (eh p {s with bonds:=if vq x y=0 then iN s.bonds (jc x y) true else s.bonds} {d with ow:=Fv d w w' (-2),bo:=mo,bn:=d.bn+1}) 74):=by
  have:=f.2.1.2;simpa [NB,eh]using this
 have v:=ui (t:=-2) c G c.lo.1;have h:=uj (w':=w') (t:=-2) c;obtain⟨A,B⟩:=qG q;obtain⟨y1,y2,M⟩:=c.wyK g (t (by decide) (by decide)) h rfl A;obtain⟨l,m⟩:=c.evK g (t (by decide) (by decide)) h;refine⟨rfl,{d with ow:=Fv d w w' (-2),bo:=mo,bn:=d.bn+1},⟨v,q,(h p.b (by rw[c.own];decide)).trans c.own,⟨c.pgK g (t (by decide) (by decide)) h,c.pg.2⟩,c.pmK g (λb l m a=>?_) h,c.keys,λk b j=>c.psK g (ao _) (t (by have:=(c.key j).1;omega) (by have:=(c.key j).1;omega)) h v j,⟨y1,y2,c.wy.2.2.1,c.wy.2.2.2.1,M⟩,⟨?_,?_,λb e=>?_⟩,l,c.evt.1,m⟩,g.mono λb _ e=>?_,λj N=>if_neg (by omega),rfl,fX _,fX _,ao _⟩
 ·rcases i b a with a|a
  ·exact m a
  ·rw[l]at a;cases a
 ·exact⟨f.1,B,f.2.2⟩
 ·show Aw (if vq x y=0 then iN s.bonds (jc x y) true else s.bonds);split
  ·rename_i n;intro k r;by_cases u:k=jc x y
   ·subst u;unfold vq at n;split at n
    ·rename_i H;obtain⟨K,L,O⟩:=H;simp only[nY,aK,co]at K L;unfold jc;simp only;omega
    ·cases n
   ·rw[bY _ _ u]at r;exact c.bd.2.1 k r
  ·exact c.bd.2.1
 ·rcases C b (aj e)with a|a
  ·rcases i b a with a|a
   ·subst a;exact absurd e F
   ·exact(h b (by rw[a];decide)).trans a
  ·have:=(f.lt b (aj e)).2;exact if_pos ⟨a,this⟩
 ·rcases i b e with a|a
  ·rw[a,c.own];decide
  ·rw[a];decide
theorem MB(d:Nat)(a b:Int)(r:Bool)(v:Int)(w:ag)(R:ag->Prop)(f:Hid (am 51 #[aH d,ab b] w λe w'=>e=.returned (.bool r)/\w'=w))(i:Hid (r=false->R w))(j:Hid (r=true->am 122 #[.pointer (some ⟨d,5,none⟩),ab a,ab b] w λe w'=>e=.returned (ab v)/\Hid (R w'))):am 83 #[aH d,ab a,ab b] w λe w'=>e=.returned (.tuple #[])/\Hid (R w'):=by
 go_enter func83,ntmps83;go_wp2_with fail;refine f.mono ?_;rintro e k ⟨rfl,g⟩;obtain rfl:=g.symm;clear g f;cases r
 ·have c:=au (i rfl);go_wp2_with fail;exact dn (v:=.tuple #[]) (by simp[results]) rfl ⟨rfl,c⟩
 ·have c:=au (j rfl);go_wp2_with fail;refine c.mono ?_;rintro e l ⟨rfl,h⟩;go_wp2_with fail;exact dn (v:=.tuple #[]) (by simp[results]) rfl ⟨rfl,h⟩
theorem bt.link(f:bt p s d w){a b:Int}(g:dC a)(h:dC b)(i:d.bn<1000000):am 83 #[aH p.b,ab a,ab b] w λe w'=>e=.returned (.tuple #[])/\Hid (∃c,bt p (s.link a b) c w'/\dX 1 d c w w'):=by
 refine MB p.b a b (s.get b).isSome (vq a b) w (λw'=>∃c,bt p (s.link a b) c w'/\dX 1 d c w w') (f.isAlive b) (λe=>⟨d,?_,(dX.later d (aq _ _)).mono (aL _)⟩) λe=>?_
 ·unfold Sy.link;rw[e];exact f
 ·unfold Sy.link;rw[e];exact f.linkB g h i
end
section
variable {p:ke} {s:Sy} {d:fY} {w:ag}
theorem KL{m:Nat}{x:Tm (m+1)}(c:bE (m+1) x=0)(a b:Int)(L:Nat):nT 12 a b (aY 13 (m+1) x) L=nT 12 a b (cn (m+1) x) L:=by
 have f:aI ⟨m+1,x⟩:=aT.2 (bG.1 c).1;have e:=jC 13 (m+1) x f (by have:=(bG.1 c).2.1;omega);have d:=ex c;unfold nT;rw[bV e,cM _ _ _ _ e,bV d,cM _ _ _ _ d]
theorem bt.sendW(g:bt p s d w){a b:Int}(ai:I2 (a,b)){m:Nat}(x:Tm (m+1))(aq:In w.heap.size w (m+1) x)(A:bE (m+1) x=0)(al:d.wn<999999):am 121 #[.pointer (some ⟨p.b,4,none⟩),ab a,ab b,dw (m+1) x] w λe w'=>e=.returned (ab (nT 12 a b (cn (m+1) x) (s.ways (a,b)).length))/\Hid (∃o,bt p (if nT 12 a b (cn (m+1) x) (s.ways (a,b)).length=0 then {s with ways:=iN s.ways (a,b) (s.ways (a,b)++ [cn (m+1) x])}else s) o w'/\dX 1 d o w w'):=by
 have Y:aI ⟨m+1,x⟩:=aT.2 (bG.1 A).1;have U:fI (m+1) x<13:=by have:=(bG.1 A).2.1;omega
 have Z:=jC 13 (m+1) x Y U;have V:(d.f (a,b)).length=(s.ways (a,b)).length:=by
  have:=congrArg List.length (g.wy.2.2.1 (a,b));simpa using this
 have ax:(d.f (a,b)).length<=20:=g.wy.2.2.2.1 _;have ap:dw (m+1) x=dw (12+1) (aY 13 (m+1) x):=(zv 12 m x).symm;rw[ap];have S:bE 13 (aY 13 (m+1) x)=0:=(bV Z).trans A;refine(KM (N:=12) g.wy.1 ai (aY 13 (m+1) x) (sH 13 (m+1) x _ _ Y U aq) (fo S) al (by omega)).mono ?_;rintro e w' ⟨rfl,y,P⟩;rw[V,KL A]at y P ⊢;refine⟨rfl,?_⟩;by_cases j:nT 12 a b (cn (m+1) x) (s.ways (a,b)).length=0;rotate_left
 ·rw[if_neg j];exact⟨d,g.later (y j),(dX.later d (y j)).mono (aL _)⟩
 rw[if_pos j];obtain⟨n,mo,sl,aa,C,r,K,ad,ar⟩:=P j;have Q:aS 13 (cn (m+1) x)=true/\(s.ways (a,b)).length<20:=by
  unfold nT gV at j;split at j
  ·cases j
  ·split at j
   ·rename_i i;exact absurd j i
   ·split at j
    ·cases j
    ·rename_i i;split at j
     ·cases j
     ·exact⟨by simpa using i,by omega⟩
 have R:cn 13 n=cn (m+1) x:=(io aa).trans (io Z);have T:bE 13 n=0:=(bV aa).trans S;have ak:aS 13 n=true:=by
  have:=cM _ _ _ _ (ex T);rw[R]at this;exact this.symm.trans Q.1
 have an:=r.size;have B:=g.wy.2.1;have t:∀{t:Int},t≠ -1->t≠ -5->∀b,d.ow b=t->¬r9 (As p s d) d.wo d.sl b:=λy ah b e c=>by
  rcases B b c with c|c
  ·rw[c,g.own]at e;exact ah e.symm
  ·exact y (e.symm.trans c)
 obtain⟨o,v⟩:∃o,o={d with ow:=Fv d w w' (-1),wo:=mo,wn:=d.wn+1,f:=iN d.f (a,b) (d.f (a,b)++ [n]),sl:=sl}:=⟨_,rfl⟩;obtain⟨E,I⟩:∃E,E={s with ways:=iN s.ways (a,b) (s.ways (a,b)++ [cn (m+1) x])}:=⟨_,rfl⟩;have H:w'.heap[p.b]?=some (.cells (eh p E o) 74):=by
  have:=C.2.1.2;rw[I,v];simpa [As,eh]using this
 have W:=ui (t:=-1) g an g.lo.1;have q:=uj (w':=w') (t:=-1) g;obtain⟨M,O⟩:=qG H;rw[v]at O;have ay:∀h,r9 (As p E o) mo sl h->r9 (As p s d) d.wo d.sl h\/w.heap.size<=h:=K;obtain⟨F,G⟩:=g.evK r (t (by decide) (by decide)) q;refine⟨o,?_,?_⟩
 ·rw[<-I,v];rw[I]at*;refine⟨W,by rw[v]at H;exact H,(q p.b (by rw[g.own];decide)).trans g.own,⟨g.pgK r (t (by decide) (by decide)) q,g.pg.2⟩,g.pmK r (λb F G c=>?_) q,g.keys,λk b h=>g.psK r (ao _) (t (by have:=(g.key h).1;omega) (by have:=(g.key h).1;omega)) q W h,⟨?_,λh c=>?_,λk=>?_,λk=>?_,λk c i=>?_⟩,g.bdK r (t (by decide) (by decide)) q rfl O,F,g.evt.1,G⟩
  ·rcases B b c with c|c
   ·exact G c
   ·rw[F]at c;cases c
  ·rw[v]at M;exact⟨C.1,M,C.2.2⟩
  ·rcases K h c with z|z
   ·exact(B h z).imp id λe=>(q h (by rw[e];decide)).trans e
   ·exact aj (if_pos ⟨z,(C.lt h c).2⟩)
  ·by_cases l:k=(a,b)
   ·subst l;show (iN d.f (a,b) (d.f (a,b)++ [n]) (a,b)).map (cn 13)=iN s.ways (a,b) (s.ways (a,b)++ [cn (m+1) x]) (a,b);rw[cU,cU,iD,g.wy.2.2.1,aU,ci,R]
   ·show (iN d.f (a,b) (d.f (a,b)++ [n]) k).map (cn 13)=iN s.ways (a,b) (s.ways (a,b)++ [cn (m+1) x]) k;rw[bY _ _ l,bY _ _ l];exact g.wy.2.2.1 k
  ·by_cases l:k=(a,b)
   ·subst l;show (iN d.f (a,b) (d.f (a,b)++ [n]) (a,b)).length<=20;rw[cU,bw,V];have:=Q.2;simp;omega
   ·show (iN d.f (a,b) (d.f (a,b)++ [n]) k).length<=20;rw[bY _ _ l];exact g.wy.2.2.2.1 k
  ·have i:c∈iN d.f (a,b) (d.f (a,b)++ [n]) k:=i;have X:∀J,∀c∈d.f J,bE 13 c=0/\aS 13 c=true/\In w'.heap.size w' 13 c/\cr (λh=>Fv d w w' (-1) h=-1/\¬r9 (As p s d) mo sl h) 13 c:=λJ c i=>by
    obtain⟨au,av,ae,aw⟩:=g.wy.2.2.2.2 J c i;have af:=eX r (D:=λh=>(d.ow h=-1/\¬r9 (As p s d) d.wo d.sl h)/\h<w.heap.size) (λh z L=>z.1.2 L) ⟨ae,In.offB aw ae⟩;refine⟨au,av,af.1,af.2.mono λh u=>⟨(q h (by rw[u.1.1];decide)).trans u.1.1,λL=>?_⟩⟩;rcases K h L with ag|ag
    ·exact u.1.2 ag
    ·omega
   by_cases l:k=(a,b)
   ·subst l;rw[cU]at i;rcases dr.1 i with i|i
    ·exact X _ c i
    ·obtain rfl:=dS.1 i;exact⟨T,ak,ad,(In.offB ar ad).mono λh u=>⟨if_pos ⟨u.1.1,u.2⟩,u.1.2⟩⟩
   ·rw[bY _ _ l]at i;exact X _ c i
 ·rw[v]
  exact⟨r.mono λb _ e=>by
   rcases B b e with c|c
   ·rw[c,g.own];decide
   ·rw[c];decide,λh az=>if_neg (by omega),rfl,fX _,ao _,fX _⟩
end
theorem gm(b:ak w w')(a:w.heap[q]?=some o):w'.heap[q]?=some o:=(b.block q (aJ.1 a).1).trans a
theorem En(x:Nat)(a b c d:Int)(f:ap)(xa:aw)(g xc:Nat)(v:Int)(w:ag)(C R:ag->Prop)(A:Hid (∀W,ak w W->am 121 #[.pointer (some ⟨x,4,none⟩),ab a,ab b,.agg #[ab c,ab d,af f,ae xa g xc]] W λe w'=>e=.returned (ab v)/\Hid (C w'/\∀q,w.heap.size<=q->q<W.heap.size->w'.heap[q]?=W.heap[q]?)))(B:Hid (∀W,C W->am 46 #[aH x,af (if v=0 then ⟨#[115,101,110,100]⟩else ⟨#[108,111,115,116]⟩),ab a,ab b,.agg #[ab c,ab d,af f,ae xa g xc]] W λe w'=>e=.returned (.tuple #[])/\Hid (R w'))):am 82 #[aH x,ab a,ab b,.agg #[ab c,ab d,af f,ae xa g xc]] w λe w'=>e=.returned (.tuple #[])/\Hid (R w'):=by
 go_enter func82,ntmps82;go_upto_region 1 with fail;generalize D:w.alloc _=h;have n:Hid (ak w h/\h.heap[w.heap.size]?=some (.cells #[ab c,ab d,af f,ae xa g xc] 31)):=by
  rw[<-D];exact⟨(aq _ _).alloc (ao _) _,aF _ _⟩
 clear D;obtain⟨q,m⟩:∃q,q=w.heap.size:=⟨_,rfl⟩;rw[<-m];have s:Hid (h.heap[q]?=some (.cells #[ab c,ab d,af f,ae xa g xc] 31)):=by rw[m];exact n.2
 have HB:=au n.1;have E:=au m;clear m n;have r:Hid (ak h h.drew):=(aq _ _).drew;have z:=au (HB.trans (r.mono HB.size));have k:=au (gm r s);have i:Hid (∀W:ag,W.heap[q]?=some (.cells #[ab c,ab d,af f,ae xa g xc] 31)->W.cell? ⟨q,0,none⟩=some (ab c)/\W.cell? ⟨q,1,none⟩=some (ab d)/\W.cell? ⟨q,2,none⟩=some (af f)/\W.cell? ⟨q,3,none⟩=some (ae xa g xc)):=λW l=>⟨ah l 0,ah l 1,ah l 2,ah l 3⟩;obtain⟨F,G,H,I⟩:=i.out h s
 go_region_held3 (λW=>W.cell? ⟨q,0,none⟩=some (ab c)/\W.cell? ⟨q,1,none⟩=some (ab d)/\W.cell? ⟨q,2,none⟩=some (af f)/\W.cell? ⟨q,3,none⟩=some (ae xa g xc))
  (first|exact i _ k|exact i _ t) ((first
   | (go_at_call 121;refine(A _ z).mono ?_;rintro e y ⟨rfl,o⟩;have t:Hid (y.heap[q]?=some (.cells #[ab c,ab d,af f,ae xa g xc] 31)):=(o.2 q (by have:=E.out;omega) (aJ.1 k).1).trans k)))
 obtain⟨K,d1,L,M⟩:=i.out y t;have j:=au (B y o.1);clear F G H I A B i o t k z r HB s;by_cases u:v=0
 ·subst u;rw[if_pos rfl]at j;go_wp2_with fail;refine j.mono ?_;rintro e J ⟨rfl,p⟩;go_wp2_with fail;exact dn (v:=.tuple #[]) (by simp[results]) rfl ⟨rfl,p⟩
 ·rw[if_neg u]at j;have N:(v==0)=false:=by simpa using u
  go_wp2_with fail;refine j.mono ?_;rintro e J ⟨rfl,p⟩;go_wp2_with fail;exact dn (v:=.tuple #[]) (by simp[results]) rfl ⟨rfl,p⟩
section
variable {p:ke} {s:Sy} {d:fY} {w:ag}
def FM(d:fY)(w:ag){m:Nat}(x:Tm m):Prop:=In w.heap.size w m x/\cr (λq=>0<=d.ow q) m x
theorem FM.up{a m:Nat}{x:Tm m}{f:fY}{w':ag}(c:FM d w x)(k:dX a d f w w'):FM f w' x:=by
 have g:=eX k.1 (D:=λb=>0<=d.ow b/\b<w.heap.size) (λb e h=>by omega) ⟨c.1,In.offB c.2 c.1⟩;exact⟨g.1,g.2.mono λb e=>by rw[k.2.1 b e.2];exact e.1⟩
theorem bt.send(o:bt p s d w){a b:Int}(A:I2 (a,b)){m:Nat}(x:Tm (m+1))(t:FM d w x)(q:bE (m+1) x=0)(B:d.wn<999999)(E:d.es.length<100000):am 82 #[aH p.b,ab a,ab b,dw (m+1) x] w λe w'=>e=.returned (.tuple #[])/\Hid (∃j,bt p (s.send a b (cn (m+1) x)) j w'/\dX 2 d j w w'):=by
 obtain⟨i,r⟩:∃i,i=nT 12 a b (cn (m+1) x) (s.ways (a,b)).length:=⟨_,rfl⟩;refine En p.b a b x.1.1 x.1.2.1 x.1.2.2 x.2.1.1 x.2.2.length x.2.1.2 i w (λc=>∃d1,bt p (if i=0 then {s with ways:=iN s.ways (a,b) (s.ways (a,b)++ [cn (m+1) x])}else s) d1 c/\dX 1 d d1 w c) (λc=>∃j,bt p (s.send a b (cn (m+1) x)) j c/\dX 2 d j w c) (λc g=>?_) λc g=>?_
 ·refine((o.later g).sendW A x ((t.1.below g).mono g.size) q B).mono ?_;rintro e w' ⟨rfl,k⟩;rw[<-r]at k ⊢;obtain⟨d1,n,h⟩:=k.out;refine⟨rfl,⟨d1,n,((dX.later d g).trans h).mono (ao _)⟩,λu D z=>h.1.block u z λF=>?_⟩;have:=(o.low u (by omega)).2;omega
 ·obtain⟨d1,n,h⟩:=g;have C:=t.up h;refine(n.tell (if i=0 then JF else ol) a b x.1.1 x.1.2.1 x.1.2.2 x.2.1.1 x.2.2.length x.2.1.2 (cn (m+1) x) (kB C.1 q) (by have:=h.2.2.2.1;omega)).mono ?_;rintro e w' ⟨rfl,k⟩;obtain⟨v,f,y⟩:=k.up n;refine⟨rfl,v,?_,(h.trans y).mono (ao _)⟩;unfold Sy.send;rw[<-r];by_cases l:i=0
  ·rw[if_pos l]at f ⊢;rw[if_pos l]at f;exact f
  ·rw[if_neg l]at f ⊢;rw[if_neg l]at f;exact f
end
end Go.Proofs.YtmmahddlcldmiaaGreat
