/- Proved here: plain facts and contracts. No condition but what each names. -/
import Derived.Test.YthjclakhibnamaaGreatDoorD07
import Derived.Deep.MidRow
namespace Go.Proofs.YthjclakhibnamaaGreatDoor
open Go.RowKit Go.Proofs.Tryz
open Go.RowKit Go.Maps
set_option maxRecDepth 100000
set_option maxHeartbeats 8000000
def tQ(b:List Tc)(self:Int)(n:Nat)(x:Tm n):Option Tc:=(vl 13 b self n x).bind λa=>if bL (13+n) a=0 then some (cn (13+n) a)else none
def oh(b:List Tc)(self:Int)(n:Nat)(x:Tm n):Option Int:=(tQ b self n x).bind λt=>if t.1.1=3 then some t.1.2.1 else none
structure Dg where
 b:List Tc
 next:Int
 sends:List (Int×Tc)
 spawns:List (Int×aq×Tc)
 links:List Int
 stops:Bool
def Fb(a:Int):Tc:=((3,a,.empty),(none,0),[])
def r9(self:Int){n:Nat}(a:Ac (n+1))(d:Dg):Option Dg:=
 if a.1=1 then (oh d.b self (n+1) a.2.1.1).bind λc=>(tQ d.b self (n+1) a.2.1.2).map λt=>{d with sends:=d.sends++ [(c,t)]}
 else if a.1=2 then (tQ d.b self (n+1) a.2.1.2).bind λt=>if cm ⟨13,(d.b[a.2.2.2.toNat]?).getD (Fb 0)⟩=6 then some {d with b:=d.b.set a.2.2.2.toNat (Fb d.next),next:=d.next+1,spawns:=d.spawns++ [(d.next,a.2.2.1,t)]}else none
 else if a.1=3 then (oh d.b self (n+1) a.2.1.1).map λc=>{d with links:=d.links++ [c]}
 else some {d with stops:=true}
def qT(self:Int){n:Nat}:List (Ac (n+1))->Dg->Option Dg
 | [],d=>some d
 | a::l,d=>(r9 self a d).bind (qT self l)
structure Tk where
 message:Tc
 fate:Int
 sends:List (Int×Tc)
 spawns:List (Int×aq×Tc)
 links:List Int
 state:Tc
 mail:List Tc
def fI{n:Nat}(room self next:Int)(s m:Tc)(ms:List Tc)(c:Cl (n+1))(b:List Tc):Tk:=
 match qT self c.2.2 ⟨b,next,[],[],[],false⟩with
 | none=>⟨m,2,[],[],[],s,ms⟩
 | some a=>match tQ a.b self (n+1) c.1.2.2 with
  | none=>⟨m,2,[],[],[],s,ms⟩
  | some t=>if (ms.map (sz 13)).sum+sz 13 t<=room then ⟨m,if a.stops then 1 else 0,a.sends,a.spawns,a.links,t,ms⟩else ⟨m,3,[],[],[],s,ms⟩
def gL{n:Nat}(name:aq)(l:List (Bh (n+1))):List (Cl (n+1)):=((gG (n+1) name l).map λb=>b.2.2).getD []
def ov{n:Nat}(room:Int)(l:List (Bh (n+1)))(name:aq)(self next:Int)(s:Tc)(ms:List Tc):Option Tk:=
 (td (gL name l) s ms 0).bind λa=>(ms[a.1]?).map λb=>fI room self next s b (ms.eraseIdx a.1) a.2.1 a.2.2
variable{room self:Int}{B ms:List Tc}{vs ws:List Wd}{a e h u D N g i n o q:Nat}{s:Tc}{m:Type}{t:TypeId}{d:Wd}{M Mh S:aX}{W w w':ah}{name:aq}{ma:ay}{b c f j v0 v1 v2 v3:az}{k:bE}{nm:bm}{v:dd}{l r:List m}
theorem yY{l:List (Tm D)}(c:gH D l=true)(d:l.map (cn D)=B):aO (λx y=>aK D x 13 y) l B=true:=by
 rw[<-d];refine ru (λy x=>aK 13 y D x) _ _ _ (λf _ b a=>dF _ _ _ _ a) (jq _ _ _ λy e=>?_);exact eH ((iC c).2 y e).1
theorem LR{l:List (Tm D)}(b:gH D l=true)(c:l.map (cn D)=B):gH 13 B=true:=by
 have e:=yY b c;obtain⟨f,g⟩:=iC b;unfold gH;rw[<-cX _ _ _ e,f];simp only[decide_true,eU,cZ];intro k d;rw[<-c]at d;obtain⟨j,i,rfl⟩:=cg.1 d;have a:=g j i;have h:=eH a.1;simp only[CR,aT,cU,kj];refine⟨oV a.1,?_⟩;rw[lp h,<-fR,mY a.1];exact a.2.2
theorem Mt{l:List (Tm D)}(b:gH D l=true)(g:l.map (cn D)=B)(self:Int)(x:Tm n)(k:bL n x=0):(oR 0 (vl D l self n x)).map (cn (D+n))=tQ B self n x:=by
 have j:aM ⟨n,x⟩:=aZ.2 (bU.1 k).1;have i:=LR b g;have a:=sO D l 13 B self (yY b g) (λd c=>aZ.2 (bU.1 ((iC b).2 d c).1).1) (λd c=>aZ.2 (bU.1 ((iC i).2 d c).1).1) n x j;unfold tQ oR;cases e1:vl D l self n x with
 | none=>
  rw[e1]at a;cases e2:vl 13 B self n x with
  | none=>rfl
  | some _=>
   rw[e2]at a;exact a.elim
 | some m=>
  rw[e1]at a;cases e2:vl 13 B self n x with
  | none=>
   rw[e2]at a;exact a.elim
  | some h=>
   rw[e2]at a;have f:aK (D+n) m (13+n) h=true:=a;simp only[cD,dU];rw[bP f];by_cases e:bL (13+n) h=0
   ·simp[e,gC f]
   ·simp[e]
theorem PD(d:gH 13 B=true){x:Tm n}(f:bL n x=0){t:Tc}(a:tQ B self n x=some t):bL 13 t=0/\aY 13 t=true/\cn 13 t=t:=by
 have e:aM ⟨n,x⟩:=aZ.2 (bU.1 f).1;unfold tQ at a;obtain⟨c,h,a⟩:=cv.1 a;by_cases b:bL (13+n) c=0
 ·rw[if_pos b]at a;obtain rfl:=aJ a;refine⟨oV b,?_,MY b⟩;rw[mY b];exact zx 13 B self (λi g=>((iC d).2 i g).2.2) n x e c h
 ·rw[if_neg b]at a;cases a
def mq(b a:Nat)(d c lv:az)(q:Nat):Prop:=q=b\/q=a\/d.ownBlock=some q\/c.ownBlock=some q\/lv.ownBlock=some q
def MB(base b a:Nat)(d c lv:az)(q:Nat):Prop:=base<=q/\¬mq b a d c lv q
structure eL (base db:Nat) (me:Int) (n D k:Nat) (nx:Int) (d:Dg) (w:ah) (l:List (Tm (D+1))) (bg bc:Nat) (sd:List (Int×Tm (D+1+n+1))) (sp:List (Int×aq×Tm (D+1+n+1))) (sv pv lv:az):Prop where
 box:w.heap[db]?=some (.cells #[af (some ⟨bg,0,none⟩) 4 bc,ae me,ae d.next,sv,pv,lv,.bool d.stops] 243)
 own:db≠bg/\base<=db/\base<=bg/\bg<w.heap.size/\base<=w.heap.size
 bnd:gH (D+1) l=true
 tells:l.map (cn (D+1))=d.b
 row:∀(i:Nat)(y:Tm (D+1)),l[i]?=some y->eh w bg (i*4) (D+1) y/\In w.heap.size w (D+1) y/\cG (MB base db bg sv pv lv) (D+1) y
 free:∀j,w.frozen? ⟨bg,j,none⟩=false
 sRow:w.ownsRow base 250 5 sv sd.length (sd.flatMap λz=>Ox z.1 z.2)
 pRow:w.ownsRow base 247 6 pv sp.length (sp.flatMap λz=>Py z.1 z.2.1 z.2.2)
 lRow:w.ownsRow base 3 1 lv d.links.length (d.links.map λu=>ae u)
 sIs:sd.map (λz=>(z.1,cn _ z.2))=d.sends
 pIs:sp.map (λz=>(z.1,z.2.1,cn _ z.2.2))=d.spawns
 sIn:∀z∈sd,bL _ z.2=0/\In w.heap.size w _ z.2/\cG (MB base db bg sv pv lv) _ z.2
 pIn:∀z∈sp,bL _ z.2.2=0/\In w.heap.size w _ z.2.2/\cG (MB base db bg sv pv lv) _ z.2.2
 apart:(sv.ownBlock≠some db/\pv.ownBlock≠some db/\lv.ownBlock≠some db)/\(sv.ownBlock≠some bg/\pv.ownBlock≠some bg/\lv.ownBlock≠some bg)/\∀q,(sv.ownBlock=some q->pv.ownBlock≠some q/\lv.ownBlock≠some q)/\(pv.ownBlock=some q->lv.ownBlock≠some q)
 few:sd.length<=k/\sp.length<=k/\d.links.length<=k/\d.next=nx+sp.length/\1<=nx/\nx<=92
def Do(base b:Nat)(self:Int)(n D k:Nat)(g:Int)(d:Dg)(S:aX)(w0 w:ah):Prop:=∃l a f h i e c lv,eL base b self n D k g d w l a f h i e c lv/\∀q,mq b a e c lv q->S q\/w0.heap.size<=q
theorem tA{base:Nat}{x:Tm n}{c:aX}(k:bH S w w')(f:∀q,c q->S q\/w.heap.size<=q)(d:In w.heap.size w n x)(e:cG (λq=>base<=q/\¬S q) n x):In w'.heap.size w' n x/\cG (λq=>base<=q/\¬c q) n x:=by
 refine⟨d.kee k (e.mono λq a=>a.2),(In.offB e d).mono λq a=>⟨a.1.1,λb=>?_⟩⟩;rcases f q b with b|b
 ·exact a.1.2 b
 ·have:=a.2;omega
theorem EN{q:List (Tm n)}{a:ay}(c:fV w.heap.size w n q a)(d:ap w w'):fV w'.heap.size w' n q a:=by
 rcases c.below d with c|⟨b,o,h,i,c⟩
 ·exact ak c
 ·exact am ⟨b,o,h,bi i d.size,λf g e=>⟨(c f g e).1,(c f g e).2.mono d.size⟩⟩
section
variable {base db:Nat} {self:Int} {n D k:Nat} {nx:Int} {d:Dg} {w:ah} {l:List (Tm (D+1))} {bg bc:Nat} {sd:List (Int×Tm (D+1+n+1))} {sp:List (Int×aq×Tm (D+1+n+1))} {sv pv lv:az}
theorem eL.lt(a:eL base db self n D k nx d w l bg bc sd sp sv pv lv):db<w.heap.size:=(aS.1 a.box).1
theorem eL.high(c:eL base db self n D k nx d w l bg bc sd sp sv pv lv):∀q,mq db bg sv pv lv q->base<=q:=by
 intro q a;obtain⟨_,i,j,_⟩:=c.own;have f:∀{b:TypeId}{r o:Nat}{g:az}{p:dI},w.ownsRow base b r g o p->g.ownBlock=some q->base<=q:=λm e=>by
  rcases m.2 with⟨b,_⟩|⟨h,cap,s,b,t,_⟩
  ·rw[b]at e;cases e
  ·rw[b]at e;have:h=q:=aJ e;omega
 rcases a with rfl|rfl|a|a|a
 ·exact i
 ·exact j
 ·exact f c.sRow a
 ·exact f c.pRow a
 ·exact f c.lRow a
theorem eL.later(a:eL base db self n D k nx d w l bg bc sd sp sv pv lv){w':ah}(e:ap w w'):eL base db self n D k nx d w' l bg bc sd sp sv pv lv:=by
 have h:=aR e (λ_=>False);have i:=e.size;obtain⟨t,u,v,q,y⟩:=a.own;refine⟨(e.block db a.lt).trans a.box,⟨t,u,v,by omega,by omega⟩,a.bnd,a.tells,λs x r=>?_,λo=>?_,bD a.sRow h λ_ _ g=>g,bD a.pRow h λ_ _ g=>g,bD a.lRow h λ_ _ g=>g,a.sIs,a.pIs,λm j=>?_,λm j=>?_,a.apart,a.few⟩
 ·obtain⟨f,b,c⟩:=a.row s x r;exact⟨f.below e q,(b.below e).mono i,c⟩
 ·exact(e.frozen (p:=⟨bg,o,none⟩) q).trans (a.free o)
 ·obtain⟨f,b,c⟩:=a.sIn m j;exact⟨f,(b.below e).mono i,c⟩
 ·obtain⟨f,b,c⟩:=a.pIn m j;exact⟨f,(b.below e).mono i,c⟩
theorem eL.more(a:eL base db self n D k nx d w l bg bc sd sp sv pv lv){g:Nat}(i:k<=g):eL base db self n D g nx d w l bg bc sd sp sv pv lv:=by
 obtain⟨h,b,c,e,f⟩:=a.few;exact{a with few:=⟨by omega,by omega,by omega,e,f⟩}
theorem eL.lies(a:eL base db self n D k nx d w l bg bc sd sp sv pv lv):fV w.heap.size w (D+1) l (some ⟨bg,0,none⟩):=am ⟨bg,0,rfl,a.own.2.2.2.1,λi y b=>by
 rw[cC]
 exact⟨(a.row i y b).1,(a.row i y b).2.1⟩⟩
theorem eL.value(a:eL base db self n D k nx d w l bg bc sd sp sv pv lv)(x:Tm (n+1))(r:In base w (n+1) x)(g:bL (n+1) x=0)(o:1<=self/\self<=99):∀W,ap w W->au 179 #[aF db,aB x.1.1 x.1.2.1 x.1.2.2 x.2.1.1 x.2.2.length x.2.1.2] W (xV (D+1+n) (oR 0 (vl (D+1) l self (n+1) x)) W):=by
 intro W b;have i:GK (bL (n+1) x) (gH (D+1) l) self=0:=by simp[GK,g,a.bnd,o]
 have f:=(iC a.bnd).1;have m:=a.lies;have h:=a.own.2.2.2.2;have q:=Af (D+1+n) 0 (vl (D+1) l self (n+1) x) x.1.1 x.1.2.1 x.1.2.2 x.2.1.1 x.2.2.length x.2.1.2 (some ⟨bg,0,none⟩) bc self db W (bi a.lt b.size) ((b.cell (p:=⟨db,0,none⟩) a.lt).trans (aj a.box 0)) ((b.cell (p:=⟨db,1,none⟩) a.lt).trans (aj a.box 1)) λe j=>by
  have c:=b.trans (j.mono b.size);have:=Fm n (D+1) x l (some ⟨bg,0,none⟩) bc e.heap.size self e ((r.below (c.mono h)).mono (aG h c.size)) (EN m c) (aA _) (gI g) (by rw[f];decide) (λt s=>gI ((iC a.bnd).2 t s).1);rw[i,f]at this;exact this
 exact q
theorem eL.process(i:eL base db self n D k nx d w l bg bc sd sp sv pv lv)(x:Tm (n+1))(z:In base w (n+1) x)(m:bL (n+1) x=0)(u:1<=self/\self<=99):∀W,ap w W->au 238 #[aF db,aB x.1.1 x.1.2.1 x.1.2.2 x.2.1.1 x.2.2.length x.2.1.2] W λe w'=>∃g,e=aw (ax #[ae g,.bool (oh d.b self (n+1) x).isSome])/\Hid (ap W w'/\∀v,oh d.b self (n+1) x=some v->g=v):=by
 intro W j;have a:=Mt i.bnd i.tells self x m;refine(B6 (D+1+n) _ x.1.1 x.1.2.1 x.1.2.2 x.2.1.1 x.2.2.length x.2.1.2 db W λs t=>i.value x z m u s (j.trans (t.mono j.size))).mono ?_;rintro e w' ⟨g,rfl,p⟩;obtain⟨q,r⟩:=p;have o:Gu (oR 0 (vl (D+1) l self (n+1) x))=(oh d.b self (n+1) x).isSome/\∀v,oh d.b self (n+1) x=some v->g=v:=by
  unfold oh;rw[<-a];cases e:oR 0 (vl (D+1) l self (n+1) x)with
  | none=>exact⟨rfl,λv a=>by cases a⟩
  | some c=>
   have A:(cn (D+1+n+1) c).1=c.1:=rfl;have y:=r c e;simp only[lK,dU,Gu];by_cases h:c.1.1=3
   ·have f:(cn (D+1+n+1) c).1.1=3:=h;refine⟨?_,λv a=>?_⟩
    ·erw [if_pos f]
     simp[h]
    ·erw [if_pos f]at a
     rw[y,<-aJ a];rfl
   ·have f:¬(cn (D+1+n+1) c).1.1=3:=h;refine⟨?_,λv a=>?_⟩
    ·erw [if_neg f]
     simp[h]
    ·erw [if_neg f]at a
     cases a
 exact⟨g,by rw[o.1],q,o.2⟩
end
section
variable {base db:Nat} {self:Int} {n D k:Nat} {nx:Int} {d:Dg} {w:ah} {l:List (Tm (D+1))} {bg bc:Nat} {sd:List (Int×Tm (D+1+n+1))} {sp:List (Int×aq×Tm (D+1+n+1))} {sv pv lv:az}
def zJ(base db:Nat)(self:Int)(n D k:Nat)(nx:Int)(d:Dg)(a:Ac (n+1))(S:aX)(w:ah)(t:Bool)(w':ah):Prop:=
 bH S w w'/\t=(r9 self a d).isSome/\∀b,r9 self a d=some b->Do base db self n D (k+1) nx b S w w'
theorem nD{w:ah}{base:Nat}{e:TypeId}{g m:Nat}{v:az}{xs:dI}(f:w.ownsRow base e g v m xs):∃a c,v=af a m c:=by
 rcases f.2 with⟨b,d⟩|⟨i,cap,h,b,_⟩
 ·exact⟨none,0,by rw[b,d]⟩
 ·exact⟨_,cap,b⟩
theorem pu{w:ah}{b:Nat}{v0 v1 v2 v3 a c d:az}{t:TypeId}(e:w.heap[b]?=some (.cells #[v0,v1,v2,v3,a,c,d] t)):(∀v,(w.setCell ⟨b,3,none⟩ v).heap[b]?=some (.cells #[v0,v1,v2,v,a,c,d] t))/\(∀v,(w.setCell ⟨b,4,none⟩ v).heap[b]?=some (.cells #[v0,v1,v2,v3,v,c,d] t))/\(∀v,(w.setCell ⟨b,5,none⟩ v).heap[b]?=some (.cells #[v0,v1,v2,v3,a,v,d] t))/\(∀v,(w.setCell ⟨b,2,none⟩ v).heap[b]?=some (.cells #[v0,v1,v,v3,a,c,d] t))/\∀v,(w.setCell ⟨b,6,none⟩ v).heap[b]?=some (.cells #[v0,v1,v2,v3,a,c,v] t):=by
 refine⟨λv=>?_,λv=>?_,λv=>?_,λv=>?_,λv=>?_⟩<;>
 ·unfold World.setCell;simp[bS,e]
theorem uV{w:ah}{b:Nat}{cs:Array az}{t:TypeId}(a:w.heap[b]?=some (.cells cs t))(j:Nat):w.frozen? ⟨b,j,none⟩=false:=by simp[World.frozen?,a]
theorem eL.frame(c:eL base db self n D k nx d w l bg bc sd sp sv pv lv){w':ah}{j h g:az}(f:bH (mq db bg sv pv lv) w w')(m:∀q,mq db bg j h g q->mq db bg sv pv lv q\/w.heap.size<=q):(∀(i:Nat)(y:Tm (D+1)),l[i]?=some y->In w'.heap.size w' (D+1) y/\cG (MB base db bg j h g) (D+1) y)/\(∀a∈sd,bL _ a.2=0/\In w'.heap.size w' _ a.2/\cG (MB base db bg j h g) _ a.2)/\(∀a∈sp,bL _ a.2.2=0/\In w'.heap.size w' _ a.2.2/\cG (MB base db bg j h g) _ a.2.2)/\Below base w w':=
 ⟨λi y o=>tA f m (c.row i y o).2.1 (c.row i y o).2.2,λa e=>⟨(c.sIn a e).1,tA f m (c.sIn a e).2.1 (c.sIn a e).2.2⟩,λa e=>⟨(c.pIn a e).1,tA f m (c.pIn a e).2.1 (c.pIn a e).2.2⟩,f.below c.own.2.2.2.2 λb p q=>by
  have:=c.high b q
  omega⟩
theorem eL.link(g:eL base db self n D k nx d w l bg bc sd sp sv pv lv)(a:Ac (n+1))(P:jL (n+1) base w a)(T:bL (n+1) a.2.1.1=0)(O:a.1=3)(Y:1<=self/\self<=99)(al:k<=1000):au 230 #[aF db,PJ a] w λe w'=>∃t,e=aw (.bool t)/\Hid (zJ base db self n D k nx d a (mq db bg sv pv lv) w t w'):=by
 have J:=g.lRow;obtain⟨r,s,rfl⟩:=nD J;obtain⟨f1,f2,f3,f4⟩:=g.few;have u:r9 self a d=(oh d.b self (n+1) a.2.1.1).map λx=>{d with links:=d.links++ [x]}:=by
  simp[r9,O]
 refine(IA a.1 a.2.1.1.1.1 a.2.1.1.1.2.1 a.2.1.1.1.2.2 a.2.1.1.2.1.1 a.2.1.1.2.2.length a.2.1.1.2.1.2 a.2.1.2.1.1 a.2.1.2.1.2.1 a.2.1.2.1.2.2 a.2.1.2.2.1.1 a.2.1.2.2.2.length a.2.1.2.2.1.2 a.2.2.1 a.2.2.2 base db r d.links.length s _ w (oh d.b self (n+1) a.2.1.1).isSome (λx=>∀y,oh d.b self (n+1) a.2.1.1=some y->x=y) (by omega) g.lt g.own.2.2.2.2 ⟨aj g.box 5,uV g.box 5⟩ J g.apart.1.2.2 (g.process a.2.1.1 P.2.1 T Y)).mono ?_;rintro e w' ⟨rfl,U,v⟩;refine⟨_,rfl,?_⟩;cases hp:oh d.b self (n+1) a.2.1.1 with
 | none=>
  have Q:=U (by rw[hp];rfl);refine⟨aR Q _,by rw[u,hp];rfl,λN o=>?_⟩;rw[u,hp]at o;cases o
 | some y=>
  obtain⟨x,m,c,z,aa,X,j,i,rfl⟩:=v (by rw[hp];rfl);obtain rfl:=aa y hp;have S:z.heap[db]?=_:=(j.block db g.lt λf=>g.apart.1.2.2 f).trans g.box;have C:bH (mq db bg sv pv (af r d.links.length s)) w (z.setCell ⟨db,5,none⟩ (af (some ⟨m,0,none⟩) (d.links.length+1) c)):=bH.trans (j.mono λf _ h=>am (am (am (am h)))) (bO _ _ _ _) λf _ h=>ak h;have p:∀f,f<w.heap.size->¬(Value.slice r d.links.length s).ownBlock=some f->m≠f:=λf h V e=>by
   rcases i with i|i
   ·rw[e]at i;exact V i
   ·omega
  have H:∀f,mq db bg sv pv (af (some ⟨m,0,none⟩) (d.links.length+1) c) f->mq db bg sv pv (af r d.links.length s) f\/w.heap.size<=f:=λf h=>by
   rcases h with h|h|h|h|h
   ·exact ak (ak h)
   ·exact ak (am (ak h))
   ·exact ak (am (am (ak h)))
   ·exact ak (am (am (am (ak h))))
   ·have:m=f:=aJ h;subst this;rcases i with i|i
    ·exact ak (am (am (am (am i))))
    ·exact am i
  obtain⟨ag,ah,ai,ap⟩:=g.frame C H;refine⟨C,by rw[u,hp];rfl,λN o=>?_⟩;rw[u,hp]at o;obtain rfl:=aJ o;have an:=C.size;obtain⟨F,ad,ae,G,ao⟩:=g.own;have q:=bO z db 5 (af (some ⟨m,0,none⟩) (d.links.length+1) c);have Z:∀f,sv.ownBlock=some f->f<w.heap.size:=λf h=>by
   obtain⟨M,B⟩:=eK g.sRow f h;exact(aS.1 B).1
  have W:∀f,pv.ownBlock=some f->f<w.heap.size:=λf h=>by
   obtain⟨M,B⟩:=eK g.pRow f h;exact(aS.1 B).1
  have A:¬(Value.slice r d.links.length s).ownBlock=some bg:=g.apart.2.1.2.2;refine⟨l,bg,bc,sd,sp,sv,pv,_,⟨(pu S).2.2.1 _,⟨F,ad,ae,by omega,by omega⟩,g.bnd,g.tells,λK L v=>⟨?_,ag K L v⟩,λab=>?_,?_,?_,?_,g.sIs,g.pIs,ah,ai,⟨⟨g.apart.1.1,g.apart.1.2.1,?_⟩,⟨g.apart.2.1.1,g.apart.2.1.2.1,?_⟩,λf=>⟨λh=>⟨((g.apart.2.2 f).1 h).1,?_⟩,λh=>?_⟩⟩,⟨by omega,by omega,by simp;omega,f4⟩⟩,H⟩
  ·exact((g.row K L v).1.kee j G A).kee q (by have:=j.size;omega) (λe=>F e.symm)
  ·have R:(z.setCell ⟨db,5,none⟩ (af (some ⟨m,0,none⟩) (d.links.length+1) c)).heap[bg]?=w.heap[bg]? :=(q.block bg (by have:=j.size;omega) (λe=>F e.symm)).trans (j.block bg G A);have I:=g.free ab;unfold World.frozen? at I ⊢;rw[R];exact I
  ·exact bD (bD g.sRow j λf h E=>((g.apart.2.2 f).1 h).2 E) q λf h e=>g.apart.1.1 (by rw[h,e])
  ·exact bD (bD g.pRow j λf h E=>(g.apart.2.2 f).2 h E) q λf h e=>g.apart.1.2.1 (by rw[h,e])
  ·have:=bD X q λf h e=>p db g.lt g.apart.1.2.2 (by
     have:m=f:=aJ h
     rw[this,e])
   simpa using this
  ·exact λe=>p db g.lt g.apart.1.2.2 (aJ e)
  ·exact λe=>p bg G A (aJ e)
  ·exact λe=>p f (Z f h) (((g.apart.2.2 f).1 h).2) (aJ e)
  ·exact λe=>p f (W f h) ((g.apart.2.2 f).2 h) (aJ e)
end
section
variable {base db:Nat} {self:Int} {n D k:Nat} {nx:Int} {d:Dg} {w:ah} {l:List (Tm (D+1))} {bg bc:Nat} {sd:List (Int×Tm (D+1+n+1))} {sp:List (Int×aq×Tm (D+1+n+1))} {sv pv lv:az}
theorem NV{N:Nat}{o:Option (Tm N)}{c:Tm N}(a:oR 0 o=some c):bL N c=0:=by
 unfold oR at a;rw[if_pos rfl]at a;obtain⟨d,_,a⟩:=cv.1 a;by_cases b:bL N d=0
 ·rw[if_pos b]at a;rw[<-aJ a];exact b
 ·rw[if_neg b]at a;cases a
theorem eL.told(e:eL base db self n D k nx d w l bg bc sd sp sv pv lv)(x:Tm (n+1))(h:bL (n+1) x=0):(oR 0 (vl (D+1) l self (n+1) x)).isSome=(tQ d.b self (n+1) x).isSome/\∀(a:Tm (D+1+n+1)) t,tQ d.b self (n+1) x=some t->aK _ a (D+1+n+1) ((oR 0 (vl (D+1) l self (n+1) x)).getD (xx (D+1+n)))=true->bL _ a=0/\aY _ a=true/\cn _ a=t:=by
 have m:=Mt e.bnd e.tells self x h;refine⟨by rw[<-m,Option.isSome_map],λa t f c=>?_⟩;have p:=PD (LR e.bnd e.tells) h f;rw[<-m]at f;obtain⟨q,o,rfl⟩:=cJ.1 f;rw[o]at c;have c:aK _ a _ q=true:=c;have i:=(bP c).trans (NV o);have j:=gC c;refine⟨i,?_,j⟩;have g:=p.2.1;rw[<-j,mY i]at g;exact g
theorem eL.send(h:eL base db self n D k nx d w l bg bc sd sp sv pv lv)(a:Ac (n+1))(P:jL (n+1) base w a)(ad:bL (n+1) a.2.1.1=0)(Q:bL (n+1) a.2.1.2=0)(Z:a.1=1)(V:1<=self/\self<=99)(aC:k<=1000):au 228 #[aF db,PJ a] w λe w'=>∃t,e=aw (.bool t)/\Hid (zJ base db self n D k nx d a (mq db bg sv pv lv) w t w'):=by
 have U:=h.sRow;obtain⟨y,z,rfl⟩:=nD U;obtain⟨f1,f2,f3,f4⟩:=h.few;have s:r9 self a d=(oh d.b self (n+1) a.2.1.1).bind λx=>(tQ d.b self (n+1) a.2.1.2).map λt=>{d with sends:=d.sends++ [(x,t)]}:=by
  simp[r9,Z]
 obtain⟨ah,ai⟩:=h.told (self:=self) a.2.1.2 Q;refine(Jk (D+1+n) a.1 a.2.1.1.1.1 a.2.1.1.1.2.1 a.2.1.1.1.2.2 a.2.1.1.2.1.1 a.2.1.1.2.2.length a.2.1.1.2.1.2 a.2.1.2.1.1 a.2.1.2.1.2.1 a.2.1.2.1.2.2 a.2.1.2.2.1.1 a.2.1.2.2.2.length a.2.1.2.2.1.2 a.2.2.1 a.2.2.2 base db y sd.length z _ w (oh d.b self (n+1) a.2.1.1).isSome (λx=>∀A,oh d.b self (n+1) a.2.1.1=some A->x=A) (oR 0 (vl (D+1) l self (n+1) a.2.1.2)) (by omega) h.lt h.own.2.2.2.2 ⟨aj h.box 3,uV h.box 3⟩ U h.apart.1.1 (h.process a.2.1.1 P.2.1 ad V) (h.value a.2.1.2 P.2.2.1 Q V)).mono ?_;rintro e w' ⟨rfl,K,i⟩;refine⟨_,rfl,?_⟩;rw[ah]at K i ⊢;cases hp:oh d.b self (n+1) a.2.1.1 with
 | none=>
  have E:=K (by rw[hp];rfl);refine⟨aR E _,by rw[s,hp];rfl,λN p=>?_⟩;rw[s,hp]at p;cases p
 | some A=>
  cases g:tQ d.b self (n+1) a.2.1.2 with
  | none=>
   have E:=K (by rw[hp,g];rfl);refine⟨aR E _,by rw[s,hp,g];rfl,λN p=>?_⟩;rw[s,hp,g]at p;cases p
  | some t=>
   obtain⟨x,r,j,c,B,al,aq,ao,W,ag,q,m,rfl⟩:=i (by rw[hp,g];rfl);obtain rfl:=al A hp;obtain⟨an,_,ar⟩:=ai r t g aq;have ab:B.heap[db]?=_:=(q.block db h.lt λf=>h.apart.1.1 f).trans h.box;have I:bH (mq db bg (af y sd.length z) pv lv) w (B.setCell ⟨db,3,none⟩ (af (some ⟨j,0,none⟩) (sd.length+1) c)):=bH.trans (q.mono λf _ g=>am (am (ak g))) (bO _ _ _ _) λf _ g=>ak g;have v:∀f,f<w.heap.size->¬(Value.slice y sd.length z).ownBlock=some f->j≠f:=λf g ae e=>by
    rcases m with m|m
    ·rw[e]at m;exact ae m
    ·omega
   have O:∀f,mq db bg (af (some ⟨j,0,none⟩) (sd.length+1) c) pv lv f->mq db bg (af y sd.length z) pv lv f\/w.heap.size<=f:=λf g=>by
    rcases g with g|g|g|g|g
    ·exact ak (ak g)
    ·exact ak (am (ak g))
    ·have:j=f:=aJ g;subst this;rcases m with m|m
     ·exact ak (am (am (ak m)))
     ·exact am m
    ·exact ak (am (am (am (ak g))))
    ·exact ak (am (am (am (am g))))
   obtain⟨az,aA,aB,aH⟩:=h.frame I O;refine⟨I,by rw[s,hp,g];rfl,λN p=>?_⟩;rw[s,hp,g]at p;obtain rfl:=aJ p;have aD:=I.size;have aE:=q.size;obtain⟨L,ax,ay,M,aG⟩:=h.own;have u:=bO B db 3 (af (some ⟨j,0,none⟩) (sd.length+1) c);have S:∀f,lv.ownBlock=some f->f<w.heap.size:=λf g=>by
    obtain⟨Y,G⟩:=eK h.lRow f g;exact(aS.1 G).1
   have T:∀f,pv.ownBlock=some f->f<w.heap.size:=λf g=>by
    obtain⟨Y,G⟩:=eK h.pRow f g;exact(aS.1 G).1
   have F:¬(Value.slice y sd.length z).ownBlock=some bg:=h.apart.2.1.1;have ap:cG (MB base db bg (af (some ⟨j,0,none⟩) (sd.length+1) c) pv lv) _ r:=W.mono λf g=>by
    have:=h.lt;refine⟨by omega,λo=>?_⟩;rcases o with o|o|o|o|o
    ·omega
    ·omega
    ·exact g.2 (aJ o).symm
    ·have:=T f o;omega
    ·have:=S f o;omega
   refine⟨l,bg,bc,sd++ [(x,r)],sp,_,pv,lv,⟨(pu ab).1 _,⟨L,ax,ay,by omega,by omega⟩,h.bnd,h.tells,λX C i=>⟨?_,az X C i⟩,λav=>?_,?_,?_,?_,?_,h.pIs,λC i=>?_,aB,⟨⟨?_,h.apart.1.2.1,h.apart.1.2.2⟩,⟨?_,h.apart.2.1.2.1,h.apart.2.1.2.2⟩,λf=>⟨λg=>⟨λe=>?_,λe=>?_⟩,(h.apart.2.2 f).2⟩⟩,⟨by simp;omega,by omega,by show d.links.length<=k+1;omega,f4⟩⟩,O⟩
   ·exact((h.row X C i).1.kee q M F).kee u (by omega) (λe=>L e.symm)
   ·have aa:(B.setCell ⟨db,3,none⟩ (af (some ⟨j,0,none⟩) (sd.length+1) c)).heap[bg]?=w.heap[bg]? :=(u.block bg (by omega) (λe=>L e.symm)).trans (q.block bg M F);have R:=h.free av;unfold World.frozen? at R ⊢;rw[aa];exact R
   ·have:=bD ag u λf g e=>v db h.lt h.apart.1.1 (by
      have:j=f:=aJ g
      rw[this,e])
    simpa using this
   ·exact bD (bD h.pRow q λf g J=>((h.apart.2.2 f).1 J).1 g) u λf g e=>h.apart.1.2.1 (by rw[g,e])
   ·exact bD (bD h.lRow q λf g J=>((h.apart.2.2 f).1 J).2 g) u λf g e=>h.apart.1.2.2 (by rw[g,e])
   ·simp[h.sIs,ar]
   ·rcases dv.1 i with i|i
    ·exact aA C i
    ·obtain rfl:=dP.1 i;refine⟨an,?_,ap⟩;refine ao.kee u (W.mono λf g e=>?_);have:=h.lt;omega
   ·exact λe=>v db h.lt h.apart.1.1 (aJ e)
   ·exact λe=>v bg M F (aJ e)
   ·have H:j=f:=aJ g;exact v f (T f e) (λr=>((h.apart.2.2 f).1 r).1 e) H
   ·have H:j=f:=aJ g;exact v f (S f e) (λr=>((h.apart.2.2 f).1 r).2 e) H
end
theorem ng(w:ah)(g o:Nat)(v0 v1 v2 v3:az):bH (λb=>b=g) w (dl w g o v0 v1 v2 v3):=
 bH.trans (bH.trans (bH.trans (bO w g o v0) (bO _ g (o+1) v1) λ_ _ a=>a) (bO _ g (o+2) v2) λ_ _ a=>a) (bO _ g (o+3) v3) λ_ _ a=>a
theorem CW(j:Nat)(a:j<o\/o+4<=j):(dl w g o v0 v1 v2 v3).cell? ⟨g,j,none⟩=w.cell? ⟨g,j,none⟩:=by
 unfold dl;rw[dS j (by omega),dS j (by omega),dS j (by omega),dS j (by omega)]
theorem yT(v0 v1 v2 v3:az)(a:ai w g o b/\ai w g (o+1) c/\ai w g (o+2) f/\ai w g (o+3) j):(dl w g o v0 v1 v2 v3).cell? ⟨g,o,none⟩=some v0/\(dl w g o v0 v1 v2 v3).cell? ⟨g,o+1,none⟩=some v1/\(dl w g o v0 v1 v2 v3).cell? ⟨g,o+2,none⟩=some v2/\(dl w g o v0 v1 v2 v3).cell? ⟨g,o+3,none⟩=some v3:=by
 obtain⟨d,e,h,i⟩:=a;unfold dl;refine⟨?_,?_,?_,?_⟩
 ·rw[dS o (by omega),dS o (by omega),dS o (by omega)];exact iQ _ _ _ d
 ·rw[dS (o+1) (by omega),dS (o+1) (by omega)];exact iQ _ _ _ ((dS (o+1) (by omega)).trans e)
 ·rw[dS (o+2) (by omega)];exact iQ _ _ _ ((dS (o+2) (by omega)).trans ((dS (o+2) (by omega)).trans h))
 ·exact iQ _ _ _ ((dS (o+3) (by omega)).trans ((dS (o+3) (by omega)).trans ((dS (o+3) (by omega)).trans i)))
theorem uu(j:Nat):(dl w g o v0 v1 v2 v3).frozen? ⟨g,j,none⟩=w.frozen? ⟨g,j,none⟩:=by
 unfold dl;rw[ic,ic,ic,ic]
theorem Hw(w:ah)(p:Addr):w.drew.cell? p=w.cell? p:=rfl
theorem B7(w:ah)(p:Addr):w.drew.frozen? p=w.frozen? p:=rfl
theorem eh.far{x:Tm n}(b:eh w g o n x)(a:∀j,o<=j->j<o+4->w'.cell? ⟨g,j,none⟩=w.cell? ⟨g,j,none⟩):eh w' g o n x:=by
 cases n with
 | zero=>exact b.elim
 | succ n=>
  obtain⟨c,d,e,f⟩:=b;exact⟨(a _ (by omega) (by omega)).trans c,(a _ (by omega) (by omega)).trans d,(a _ (by omega) (by omega)).trans e,(a _ (by omega) (by omega)).trans f⟩
theorem Pm(a:Int)(D:Nat)(h:1<=a/\a<=99):CR (D+1) (cB 3 a D)=true/\cn (D+1) (cB 3 a D)=Fb a:=by
 refine⟨?_,rfl⟩;have f:cw (D+1) (cB 3 a D)=true:=by
  rw[<-aZ];intro b c;have:b=((3,a,.empty),(none,0,0)):=by simpa [aI,cB]using c
  subst this;have g:qX a 1 99=true:=by simp[qX];omega
  simp[cN,g]
 have d:bL (D+1) (cB 3 a D)=0:=bU.2 ⟨f,by simp[gK,cB],by simp[sz,cB]⟩;have e:aY (D+1) (cB 3 a D)=true:=by simp[aY,cB]
 simp only[CR,d,aT,kj];refine⟨rfl,am ?_⟩;rw[<-fR];exact e
theorem MS{l:List (Tm D)}(a:gH D l=true)(i:Nat){y:Tm D}(c:CR D y=true):gH D (l.set i y)=true:=by
 simp only[gH,lE,aT,cV,cZ]at a ⊢;refine⟨a.1,λd b=>?_⟩;rcases tX b with b|rfl
 ·exact a.2 d b
 ·exact c
section
variable {base db:Nat} {self:Int} {n D k:Nat} {nx:Int} {d:Dg} {w:ah} {l:List (Tm (D+1))} {bg bc:Nat} {sd:List (Int×Tm (D+1+n+1))} {sp:List (Int×aq×Tm (D+1+n+1))} {sv pv lv:az}
theorem eL.spawn(h:eL base db self n D k nx d w l bg bc sd sp sv pv lv)(a:Ac (n+1))(aL:jL (n+1) base w a)(ah:bL (n+1) a.2.1.2=0)(aK:a.1=2)(aZ:ek a.2.2.1=true)(br:0<=a.2.2.2/\a.2.2.2<4)(a1:1<=self/\self<=99)(bl:k<=7):au 229 #[aF db,PJ a] w λe w'=>∃t,e=aw (.bool t)/\Hid (zJ base db self n D k nx d a (mq db bg sv pv lv) w t w'):=by
 have aq:=h.pRow;obtain⟨M,N,rfl⟩:=nD aq;obtain⟨f1,f2,f3,f4,f5,f6⟩:=h.few;obtain⟨m,Y⟩:∃m:Nat,a.2.2.2=(m:Int):=⟨a.2.2.2.toNat,by omega⟩;have a4:m<4:=by omega
 have bk:=(iC h.bnd).1;obtain⟨p,ay⟩:∃p,l[m]?=some p:=⟨l[m]'(by omega),aV _⟩;obtain⟨y1,y2,bw⟩:=h.row m p ay;have aO:d.b[m]?=some (cn (D+1) p):=by rw[<-h.tells,di,ay];rfl
 have F:r9 self a d=(tQ d.b self (n+1) a.2.1.2).bind λt=>if p.1.1=6 then some {d with b:=d.b.set m (Fb d.next),next:=d.next+1,spawns:=d.spawns++ [(d.next,a.2.2.1,t)]}else none:=by
  have aW:cm ⟨13,(d.b[a.2.2.2.toNat]?).getD (Fb 0)⟩=p.1.1:=by
   rw[Y,Int.toNat_natCast,aO];rfl
  have aX:¬a.1=1:=by omega
  unfold r9;rw[if_neg aX,if_pos aK,aW,Y,Int.toNat_natCast]
 obtain⟨a2,a3⟩:=h.told (self:=self) a.2.1.2 ah
 have q:=Fw (D+1+n) a.1 a.2.1.1.1.1 a.2.1.1.1.2.1 a.2.1.1.1.2.2 a.2.1.1.2.1.1 a.2.1.1.2.2.length a.2.1.1.2.1.2 a.2.1.2.1.1 a.2.1.2.1.2.1 a.2.1.2.1.2.2 a.2.1.2.2.1.1 a.2.1.2.2.2.length a.2.1.2.2.1.2 a.2.2.1 m base db M sp.length N _ w (oR 0 (vl (D+1) l self (n+1) a.2.1.2)) bg bc d.next p.1.1 p.1.2.1 p.1.2.2 p.2.1.1 p.2.2.length p.2.1.2 a4 (by omega) h.lt h.own.2.2.2.1 h.own.1 h.own.2.2.2.2 (by omega) (by omega) (by
   simp only[ek,qX,aT,cV]at aZ
   omega)
  ⟨aj h.box 4,aj h.box 0,aj h.box 2,λj=>uV h.box j,h.free⟩ aq ⟨h.apart.1.2.1,h.apart.2.1.2.1⟩ y1 (λaC=>jT _ _ _ _ _ _ aC) (h.value a.2.1.2 aL.2.2.1 ah a1)
 rw[<-Y]at q;refine q.mono ?_;rintro e w' ⟨rfl,X,az⟩;refine⟨_,rfl,?_⟩;rw[a2]at X az ⊢;cases f:tQ d.b self (n+1) a.2.1.2 with
 | none=>
  have T:=X (by rw[f];rfl);refine⟨aR T _,by rw[F,f];rfl,λS r=>?_⟩;rw[F,f]at r;cases r
 | some t=>
  by_cases E:p.1.1=6;rotate_left
  ·have T:=X (by rw[f];simp[E]);refine⟨aR T _,by rw[F,f];simp[E],λS r=>?_⟩;rw[F,f]at r;simp[E]at r
  ·obtain⟨y,g,c,aA,x,C,ba,a8,Q,a0,A,s,ax,Z,av⟩:=az (by rw[f];simp[E]);obtain⟨a5,_,bb⟩:=a3 y t f ba;have aM:aA.heap[db]?=_:=(A.block db h.lt λi=>h.apart.1.2.1 i).trans h.box;obtain⟨G,bd,be,R,bu⟩:=h.own;have bq:=A.size;have U:=(pu aM).2.1 (af (some ⟨g,0,none⟩) (sp.length+1) c);rw[<-ax]at U;have u:bH (λb=>b=db) aA x:=by rw[ax];exact bO _ _ _ _
   have B:bH (λb=>b=bg) x C:=by
    rw[Z];exact bH.trans (ng x bg (m*4) _ _ _ _) (aR ((aH _ _).drew) _) λ_ _ e=>e
   have aN:C.heap[db]?=_:=(B.block db (aS.1 U).1 G).trans U;have v:bH (λb=>b=db) C w':=by rw[av];exact bO _ _ _ _
   have ad:=(pu aN).2.2.2.1 (ae (d.next+1));rw[<-av]at ad;have bn:=u.size;have bo:=B.size;have bp:=v.size;have an:bH (mq db bg sv (af M sp.length N) lv) w w':=bH.trans (bH.trans (bH.trans (A.mono λi _ f=>am (am (am (ak f)))) u λi _ f=>ak f) B λi _ f=>am (ak f)) v λi _ f=>ak f;have z:∀i,i<w.heap.size->¬(Value.slice M sp.length N).ownBlock=some i->g≠i:=λi f aY e=>by
    rcases s with s|s
    ·rw[e]at s;exact aY s
    ·omega
   have ab:∀i,mq db bg sv (af (some ⟨g,0,none⟩) (sp.length+1) c) lv i->mq db bg sv (af M sp.length N) lv i\/w.heap.size<=i:=λi f=>by
    rcases f with f|f|f|f|f
    ·exact ak (ak f)
    ·exact ak (am (ak f))
    ·exact ak (am (am (ak f)))
    ·have:g=i:=aJ f;subst this;rcases s with s|s
     ·exact ak (am (am (am (ak s))))
     ·exact am s
    ·exact ak (am (am (am (am f))))
   obtain⟨bf,bh,bi,bv⟩:=h.frame an ab;refine⟨an,by rw[F,f];simp[E],λS r=>?_⟩;rw[F,f]at r;have r:some {d with b:=d.b.set m (Fb d.next),next:=d.next+1,spawns:=d.spawns++ [(d.next,a.2.2.1,t)]}=some S:=by simpa [E]using r
   obtain rfl:=aJ r;have ao:∀i,lv.ownBlock=some i->i<w.heap.size:=λi f=>by
    obtain⟨aD,V⟩:=eK h.lRow i f;exact(aS.1 V).1
   have ar:∀i,sv.ownBlock=some i->i<w.heap.size:=λi f=>by
    obtain⟨aD,V⟩:=eK h.sRow i f;exact(aS.1 V).1
   have O:¬(Value.slice M sp.length N).ownBlock=some bg:=h.apart.2.1.2.1;have a9:cG (MB base db bg sv (af (some ⟨g,0,none⟩) (sp.length+1) c) lv) _ y:=Q.mono λi f=>by
    have:=h.lt;refine⟨by omega,λq=>?_⟩;rcases q with q|q|q|q|q
    ·omega
    ·omega
    ·have:=ar i q;omega
    ·exact f.2 (aJ q).symm
    ·have:=ao i q;omega
   have ap:=Pm d.next D (by omega)
   -- the row of what is bound
   have H:∀j,x.cell? ⟨bg,j,none⟩=w.cell? ⟨bg,j,none⟩:=λj=>(u.cell j (by omega) (λe=>G e.symm)).trans (A.cell j R O);have J:∀j,w'.cell? ⟨bg,j,none⟩=C.cell? ⟨bg,j,none⟩:=λj=>v.cell j (by omega) (λe=>G e.symm);have I:∀j,C.cell? ⟨bg,j,none⟩=(dl x bg (m*4) (ae 3) (ae d.next) (ag ⟨#[]⟩) (af none 0 0)).cell? ⟨bg,j,none⟩:=λj=>by
    rw[Z,Hw]
   have aP:∀j,j<m*4\/m*4+4<=j->w'.cell? ⟨bg,j,none⟩=w.cell? ⟨bg,j,none⟩:=λj aU=>by
    rw[J,I,CW j aU];exact H j
   have P:=yT (w:=x) (g:=bg) (o:=m*4) (ae 3) (ae d.next) (ag ⟨#[]⟩) (af none 0 0) ⟨(H _).trans y1.1,(H _).trans y1.2.1,(H _).trans y1.2.2.1,(H _).trans y1.2.2.2⟩;refine⟨l.set m (cB 3 d.next D),bg,bc,sd,sp++ [(d.next,a.2.2.1,y)],sv,_,lv,⟨ad,⟨G,bd,be,by omega,by omega⟩,MS h.bnd m ap.1,?_,λaa aB L=>?_,λj=>?_,?_,?_,?_,h.sIs,?_,bh,λbj K=>?_,⟨⟨h.apart.1.1,?_,h.apart.1.2.2⟩,⟨h.apart.2.1.1,?_,h.apart.2.1.2.2⟩,λi=>⟨λf=>⟨λe=>?_,((h.apart.2.2 i).1 f).2⟩,λf e=>?_⟩⟩,⟨by omega,by simp;omega,by show d.links.length<=k+1;omega,by show d.next+1=nx+((sp++ [(d.next,a.2.2.1,y)]).length:Nat);simp;omega,f5,f6⟩⟩,ab⟩
   ·rw[List.map_set,h.tells,ap.2]
   ·by_cases ai:m=aa
    ·subst ai;rw[List.getElem?_set_self (by omega)]at L;obtain rfl:=aJ L;have al:=lY D 3 d.next (by unfold dp;omega) (by unfold dp;omega) w'.heap.size w' (MB base db bg sv (af (some ⟨g,0,none⟩) (sp.length+1) c) lv);refine⟨⟨?_,?_,?_,?_⟩,al.1,al.2⟩
     ·rw[J,I];exact P.1
     ·rw[J,I];exact P.2.1
     ·rw[J,I];exact P.2.2.1
     ·rw[J,I];exact P.2.2.2
    ·rw[List.getElem?_set_ne ai]at L;exact⟨(h.row aa aB L).1.far λj bs bt=>aP j (by omega),bf aa aB L⟩
   ·have aI:w'.frozen? ⟨bg,j,none⟩=C.frozen? ⟨bg,j,none⟩:=by
      unfold World.frozen?;rw[v.block bg (by omega) (λe=>G e.symm)]
    have aG:C.frozen? ⟨bg,j,none⟩=x.frozen? ⟨bg,j,none⟩:=by
     rw[Z,B7,uu]
    have aE:x.frozen? ⟨bg,j,none⟩=w.frozen? ⟨bg,j,none⟩:=by
     unfold World.frozen?;rw[u.block bg (by omega) (λe=>G e.symm),A.block bg R O]
    rw[aI,aG,aE];exact h.free j
   ·refine bD (bD (bD (bD h.sRow A λi f W=>((h.apart.2.2 i).1 f).1 W) u λi f e=>h.apart.1.1 (by rw[f,e])) B λi f e=>h.apart.2.1.1 (by rw[f,e])) v λi f e=>h.apart.1.1 (by rw[f,e])
   ·have:=bD (bD (bD a0 u λi f e=>z db h.lt h.apart.1.2.1 (by
      have:g=i:=aJ f
      rw[this,e])) B λi f e=>z bg R O (by
      have:g=i:=aJ f
      rw[this,e])) v λi f e=>z db h.lt h.apart.1.2.1 (by
      have:g=i:=aJ f
      rw[this,e])
    simpa using this
   ·refine bD (bD (bD (bD h.lRow A λi f W=>(h.apart.2.2 i).2 W f) u λi f e=>h.apart.1.2.2 (by rw[f,e])) B λi f e=>h.apart.2.1.2.2 (by rw[f,e])) v λi f e=>h.apart.1.2.2 (by rw[f,e])
   ·simp[h.pIs,bb]
   ·rcases dv.1 K with K|K
    ·exact bi bj K
    ·obtain rfl:=dP.1 K;have bm:=h.lt;have a6:=a8.kee u (Q.mono λi f e=>by omega);have a7:=a6.kee B (Q.mono λi f e=>by omega);exact⟨a5,a7.kee v (Q.mono λi f e=>by omega),a9⟩
   ·exact λe=>z db h.lt h.apart.1.2.1 (aJ e)
   ·exact λe=>z bg R O (aJ e)
   ·exact z i (ar i f) (λy=>((h.apart.2.2 i).1 f).1 y) (aJ e)
   ·have aQ:g=i:=aJ f;exact z i (ao i e) (λy=>(h.apart.2.2 i).2 y e) aQ
end
def OD{n:Nat}(a:Ac (n+1)):Prop:=oO (n+1) a=true/\(a.1=1\/a.1=3->bL (n+1) a.2.1.1=0)/\(a.1=1\/a.1=2->bL (n+1) a.2.1.2=0)
theorem qU(self:Int){n:Nat}:(p q:List (Ac (n+1)))->(d:Dg)->qT self (p++q) d=(qT self p d).bind (qT self q)
 | [],_,_=>rfl
 | a::p,q,d=>by
  simp only[fL,qT];cases r9 self a d with
  | none=>rfl
  | some b=>exact qU self p q b
theorem KH(self:Int){l:List (Ac (n+1))}{a:Ac (n+1)}(b:l[i]?=some a)(d:Dg):qT self (l.take (i+1)) d=(qT self (l.take i) d).bind (r9 self a):=by
 rw[dL,b,qU];congr 1;funext x;show qT self [a] x=r9 self a x;simp only[qT];cases r9 self a x<;>rfl
theorem KF(self:Int){l:List (Ac (n+1))}{d:Dg}(a:qT self (l.take i) d=none):qT self l d=none:=by
 rw[<-iN i l,qU,a];rfl
section
variable {base db:Nat} {self:Int} {n D k:Nat} {nx:Int} {d:Dg} {w:ah} {l:List (Tm (D+1))} {bg bc:Nat} {sd:List (Int×Tm (D+1+n+1))} {sp:List (Int×aq×Tm (D+1+n+1))} {sv pv lv:az}
theorem zJ.from{a:Ac (n+1)}{S:aX}{W w':ah}{t:Bool}(b:zJ base db self n D k nx d a S W t w')(c:ap w W):zJ base db self n D k nx d a S w t w':=⟨(aR c S).trans b.1 λ_ _ e=>e,b.2.1,λh l=>by
 obtain⟨o,g,f,s,u,v,r,p,i,j⟩:=b.2.2 h l;refine⟨o,g,f,s,u,v,r,p,i,λq m=>?_⟩;rcases j q m with e|e
 ·exact ak e
 ·have:=c.size
  exact am (by omega)⟩
theorem jL.later{B:Nat}{a:Ac (n+1)}{W:ah}(b:jL (n+1) B w a)(c:Below B w W):jL (n+1) B W a:=⟨b.1,b.2.1.below c,b.2.2.1.below c,b.2.2.2⟩
theorem eL.stop(a:eL base db self n D k nx d w l bg bc sd sp sv pv lv):Do base db self n D (k+1) nx {d with stops:=true} (mq db bg sv pv lv) w (w.setCell ⟨db,6,none⟩ (.bool true))/\bH (mq db bg sv pv lv) w (w.setCell ⟨db,6,none⟩ (.bool true)):=by
 have e:=bO w db 6 (.bool true);obtain⟨s,t,u,y⟩:=a.frame (w':=w.setCell ⟨db,6,none⟩ (.bool true)) (e.mono λf _ b=>ak b) λf c=>ak c;obtain⟨g,q,r,m,x⟩:=a.own;have v:=e.size;obtain⟨f1,f2,f3,f4⟩:=a.few;refine⟨⟨l,bg,bc,sd,sp,sv,pv,lv,⟨(pu a.box).2.2.2.2 _,⟨g,q,r,by omega,by omega⟩,a.bnd,a.tells,λj o i=>⟨(a.row j o i).1.kee e m (λb=>g b.symm),s j o i⟩,λp=>?_,bD a.sRow e λf c b=>a.apart.1.1 (by rw[c,b]),bD a.pRow e λf c b=>a.apart.1.2.1 (by rw[c,b]),bD a.lRow e λf c b=>a.apart.1.2.2 (by rw[c,b]),a.sIs,a.pIs,t,u,a.apart,⟨by omega,by omega,by show d.links.length<=k+1;omega,f4⟩⟩,λf c=>ak c⟩,e.mono λf _ b=>ak b⟩;have h:=a.free p;unfold World.frozen? at h ⊢;rw[e.block bg m (λb=>g b.symm)];exact h
theorem eL.one(c:eL base db self n D k nx d w l bg bc sd sp sv pv lv)(a:Ac (n+1))(m:jL (n+1) base w a)(A:OD a)(p:1<=self/\self<=99)(y:k<=7):au 204 #[aF db,PJ a] w λe w'=>∃t,e=aw (.bool t)/\Hid (zJ base db self n D k nx d a (mq db bg sv pv lv) w t w'):=by
 obtain⟨f,r,s⟩:=A;have o:=c.own.2.2.2.2;refine Ly a.1 a.2.1.1.1.1 a.2.1.1.1.2.1 a.2.1.1.1.2.2 a.2.1.1.2.1.1 a.2.1.1.2.2.length a.2.1.1.2.1.2 a.2.1.2.1.1 a.2.1.2.1.2.1 a.2.1.2.1.2.2 a.2.1.2.2.1.1 a.2.1.2.2.2.length a.2.1.2.2.1.2 a.2.2.1 a.2.2.2 db w (zJ base db self n D k nx d a (mq db bg sv pv lv) w) c.lt ⟨d.stops,aj c.box 6,uV c.box 6⟩ ?_ ?_ ?_ ?_
 ·intro i h b;refine((c.later b).send a (m.later (b.mono o)) (r (ak i)) (s (ak i)) i p (by omega)).mono ?_;rintro e w' ⟨t,rfl,g⟩;exact⟨t,rfl,g.from b⟩
 ·intro j h b;have x:ek a.2.2.1=true/\0<=a.2.2.2/\a.2.2.2<4:=by
   have z:¬a.1=1:=by omega
   unfold oO at f;rw[if_neg z,if_pos j]at f;simp only[aT,cV]at f;exact⟨f.1.1.2,f.1.2,f.2⟩
  refine((c.later b).spawn a (m.later (b.mono o)) (s (am j)) j x.1 x.2 p y).mono ?_;rintro e w' ⟨t,rfl,g⟩;exact⟨t,rfl,g.from b⟩
 ·intro q h b;refine((c.later b).link a (m.later (b.mono o)) (r (am q)) q p (by omega)).mono ?_;rintro e w' ⟨t,rfl,g⟩;exact⟨t,rfl,g.from b⟩
 ·intro B C E h b;have u:r9 self a d=some {d with stops:=true}:=by
   unfold r9;rw[if_neg B,if_neg C,if_neg E]
  obtain⟨F,G⟩:=(c.later b).stop;refine zJ.from ⟨G,by rw[u];rfl,λH v=>?_⟩ b;rw[u]at v;obtain rfl:=aJ v;exact F
theorem eL.all(G:eL base db self n D 0 nx d w l bg bc sd sp sv pv lv)(ac:List (Ac (n+1)))(K:ay)(T:Nat)(N:Lay base w 11 (gZ (n+1)) (jL (n+1) base w) K ac)(ab:∀a∈ac,OD a)(W:ac.length<=8)(ad:1<=self/\self<=99):au 178 #[aF db,af K ac.length T] w λe w'=>∃t,e=aw (.bool t)/\Hid (bH (mq db bg sv pv lv) w w'/\t=(qT self ac d).isSome/\∀g,qT self ac d=some g->Do base db self n D 8 nx g (mq db bg sv pv lv) w w'):=by
 have aa:=G.own.2.2.2.2;have Q:∀{c:ah},bH (mq db bg sv pv lv) w c->Below base w c:=λj=>j.below aa λb X k=>by
  have:=G.high b k;omega
 refine(Kb ac K ac.length T db w (λi c=>bH (mq db bg sv pv lv) w c/\∃g,qT self (ac.take i) d=some g/\Do base db self n D i nx g (mq db bg sv pv lv) w c) (λc=>bH (mq db bg sv pv lv) w c/\qT self ac d=none) (by omega) rfl ?_ ?_ ?_ ?_).mono ?_
 ·rintro i a c h ⟨j,_⟩;rcases N with e|⟨b,o,e,R,I⟩
  ·rw[e]at h;simp at h
  ·exact⟨b,o,e,λS av Z=>((Q j).cell (p:=⟨b,o+i*11+S,none⟩) R).trans ((I i a h).1 S av Z)⟩
 ·rintro i c ax ⟨j,g,H,z,x,v,C,E,F,B,A,q,m⟩ M;exact⟨j.trans (aR M (λ_=>False)) λ_ _ e=>e.elim,g,H,z,x,v,C,E,F,B,A,q.later M,m⟩
 ·rintro i a c h ⟨j,g,H,z,x,v,C,E,F,B,A,q,m⟩;have az:=(bj.1 h).1;have Y:jL (n+1) base c a:=by
   rcases N with e|⟨b,o,e,R,I⟩
   ·rw[e]at h;simp at h
   ·exact((I i a h).2).later (Q j)
  refine(q.one a Y (ab a (aU h)) ad (by omega)).mono ?_;rintro e w' ⟨t,rfl,u⟩;obtain⟨s,f,L⟩:=u.out;have y:=KH self h d;rw[H]at y;simp only[dU]at y;have P:bH (mq db bg sv pv lv) w w':=j.trans s λb X k=>by
   rcases m b k with e|e
   ·exact e
   ·omega
  refine⟨t,rfl,λag=>⟨P,?_⟩,λae=>⟨P,?_⟩⟩
  ·rw[ag]at f;obtain⟨d2,r⟩:=gn.1 f.symm;obtain⟨al,V,U,ap,aq,ar,ao,an,ai,aj⟩:=L d2 r;refine⟨d2,by rw[y,r],al,V,U,ap,aq,ar,ao,an,ai,λk J=>?_⟩;rcases aj k J with e|e
   ·exact m k e
   ·have:=j.size;exact am (by omega)
  ·rw[ae]at f;refine KF self (i:=i+1) ?_;rw[y];exact lI.1 (by rw[<-lL,<-f];rfl)
 ·exact⟨bH.refl _ _,d,rfl,l,bg,bc,sd,sp,sv,pv,lv,G,λk J=>ak J⟩
 ·rintro e w' ⟨t,rfl,u⟩;refine⟨t,rfl,?_⟩;cases t
  ·obtain⟨s,f⟩:=u.out.2 rfl;refine⟨s,by rw[f];rfl,λg O=>?_⟩;rw[f]at O;cases O
  ·obtain⟨s,g,f,L⟩:=u.1 rfl;rw[bI (aA _)]at f;refine⟨s,by rw[f];rfl,λd2 r=>?_⟩;rw[f]at r;obtain rfl:=aJ r;obtain⟨z,x,v,C,E,F,B,A,q,m⟩:=L;exact⟨z,x,v,C,E,F,B,A,q.more W,m⟩
end
theorem GC(N:Nat):bL (N+1) (cB 1 0 N)=0/\aY (N+1) (cB 1 0 N)=true/\sz (N+1) (cB 1 0 N)=0:=by
 have c:cw (N+1) (cB 1 0 N)=true:=by
  rw[<-aZ];intro a b;have:a=((1,0,.empty),(none,0,0)):=by simpa [aI,cB]using b
  subst this;simp[cN,qX]
 exact⟨bU.2 ⟨c,by simp[gK,cB],by simp[sz,cB]⟩,by simp[aY,cB],by simp[sz,cB]⟩
theorem CN:ee ws nm (N+1) (cB 1 0 N) (1,0):=⟨λa=>by simp[cB]at a,λa=>by simp[cB]at a,λ_ _=>rfl⟩
theorem kN.numb{i:List Wd}{s:Tm (N+1)}{h:List (Tm (N+1))}(j:kN (N+1) ws nm room (d::i) (s::h)):kN (N+1) ws nm room ((1,0)::i) (cB 1 0 N::h):=by
 obtain⟨f,g,k,l,m,n,o,p⟩:=j;obtain⟨q,r,u⟩:=GC N;refine⟨⟨by simpa using f.1,λc t e b a=>?_⟩,?_,λe a=>?_,?_,m,n,o,p⟩
 ·cases c with
  | zero=>
   simp only[dn,iv]at b a;subst b a;exact CN
  | succ c=>exact f.2 (c+1) t e (by simpa using b) (by simpa using a)
 ·simp only[bM]at g ⊢;rw[nz (by decide),nL];exact(fM.1 g).2.1
 ·rcases cr.1 a with rfl|a
  ·exact⟨q,r⟩
  ·exact k e (cd _ a)
 ·simp only[bB,dk]at l ⊢;have:=(fJ (N+1) s).1;omega
theorem kN.turned{v:Wd}{s x:Tm (N+1)}{ms:List (Tm (N+1))}(o:kN (N+1) ws nm room (d::vs++ [v]) (s::ms++ [x]))(g:vs.length=ms.length):kN (N+1) ws nm room (v::vs) (x::ms):=by
 obtain⟨h,i,w,y,z,A,B,C⟩:=o;refine⟨⟨by simp[g],λe D f c a=>?_⟩,?_,λf a=>w f ?_,?_,z,A,B,C⟩
 ·cases e with
  | zero=>
   simp only[dn,iv]at c a;subst c a;exact h.2 (vs.length+1) v x (by simp) (by simp[g])
  | succ e=>
   simp only[dA]at c a;have p:=(bj.1 c).1;have q:=(bj.1 a).1;exact h.2 (e+1) D f (by rw[fL,dA,dO p];exact c) (by rw[fL,dA,dO q];exact a)
 ·simp only[fL,bM,lD,List.flatMap_nil,eF]at i ⊢;obtain⟨_,u,_⟩:=fM.1 i;obtain⟨k,l,m⟩:=fM.1 u;exact fM.2 ⟨l,k,λj r b t n=>m b t j r n.symm⟩
 ·rcases cr.1 a with rfl|a
  ·simp
  ·simp[a]
 ·simp only[fL,bB,fw,dk,nO,dB,List.sum_nil]at y ⊢;have:=(fJ (N+1) s).1;omega
theorem sL(w:ah)(c:Nat)(a b:Int):co (λq=>q=c) w (vg w c a b):=(bJ w c 5 (ae a)).trans (bJ _ c 6 (ae b)) λ_ _ e=>e
theorem L8(w:ah)(c:Nat)(a b:Int):(vg w c a b).heap.size=w.heap.size:=by simp[vg,World.setCell]
theorem iF(a:co S w w'):bH S w w':=⟨a.os,a.tape,a.output,a.size,a.block⟩
theorem jV(a:bH S w w'):co S w w':=⟨a.os,a.tape,a.output,a.size,a.block⟩
section
variable {base pb:Nat} {name:aq} {room:Int} {N:Nat} {s:Tm (N+1)} {ms:List (Tm (N+1))} {xs:List (Wd×Tm (N+1))} {nk:Nat} {M:aX} {w:ah} {ws:List Wd} {nm:bm} {sv:Wd} {vs:List Wd} {ma:ay} {mc:Nat} {Mh:aX}
theorem kw.keptBox{v:Wd}(h:kw Mh ma vs mc w)(i:Mh pb):kw Mh ma vs mc (vg w pb v.1 v.2):=by
 rcases h with a|⟨d,j,e,f,b,c,g⟩
 ·exact ak a
 ·exact am ⟨d,j,e,f,b,((sL w pb v.1 v.2).block d (aS.1 c).1 λa=>b (by rw[a];exact i)).trans c,g⟩
theorem ed.word{mv:az}{v:Wd}(a:ed base (PL pb name sv mv) room ws nm M w):ed base (PL pb name v mv) room ws nm M (vg w pb v.1 v.2):=a.turn (sL w pb v.1 v.2) λtv lv mp b=>by
 unfold vg World.setCell;simp[bS,b]
theorem cW.numb(a:cW base pb name room (N+1) s ms [] nk M w ws nm sv vs ma mc Mh):cW base pb name room (N+1) (cB 1 0 N) ms [] nk M (vg w pb 1 0) ws nm (1,0) vs ma mc Mh/\co M w (vg w pb 1 0):=by
 obtain⟨d,f⟩:=a.box0;have c:=a.has;simp only[dB,eF]at c;refine⟨⟨a.heap.word (v:=(1,0)),a.mail.keptBox (v:=(1,0)) d,?_,a.len,a.names,a.inM,a.mailM⟩,(sL w pb 1 0).mono λb e=>?_⟩
 ·simp only[dB,eF];exact c.numb
 ·rw[e];exact a.inM pb d
theorem cW.turned{v:Wd}{x:Tm (N+1)}(a:cW base pb name room (N+1) s ms [(v,x)] nk M w ws nm sv vs ma mc Mh):cW base pb name room (N+1) x ms [] nk M (vg w pb v.1 v.2) ws nm v vs ma mc Mh/\co M w (vg w pb v.1 v.2):=by
 obtain⟨d,f⟩:=a.box0;have c:=a.has;simp only[bB,dB]at c;refine⟨⟨a.heap.word,a.mail.keptBox d,?_,a.len,a.names,a.inM,a.mailM⟩,(sL w pb v.1 v.2).mono λb e=>?_⟩
 ·simp only[dB,eF];exact c.turned a.len
 ·rw[e];exact a.inM pb d
theorem cW.cells56(e:cW base pb name room (N+1) s ms xs nk M w ws nm sv vs ma mc Mh):(∃a,ai w pb 5 (ae a))/\(∃a,ai w pb 6 (ae a))/\∀j,w.frozen? ⟨pb,j,none⟩=false:=by
 obtain⟨i,g,h,f,_⟩:=e.heap.box;obtain⟨_,b,c,_,d,_⟩:=PL.cells f;exact⟨⟨_,b⟩,⟨_,c⟩,d⟩
def PN(base pb:Nat)(name:aq)(room:Int)(N:Nat)(s:Tm (N+1))(ms:List (Tm (N+1)))(x:Tm (N+1))(nk:Nat)(M:aX)(w:ah)(t:Bool)(w':ah):Prop:=
 t=decide ((ms.map (sz (N+1))).sum+sz (N+1) x<=room)/\co M w w'/\∃a i f g h d e c,cW base pb name room (N+1) a ms [] (nk+402) (λb=>M b\/w.heap.size<=b) w' i f g h d e c/\(t=true->a=x)/\(t=false->aK (N+1) a (N+1) s=true)
theorem yU{x:Tm (N+1)}{ms:List (Tm (N+1))}(a:bL (N+1) x=0)(b:aY (N+1) x=true):tF (N+1) x room (cB 1 0 N::ms)=if (ms.map (sz (N+1))).sum+sz (N+1) x<=room then 0 else 6:=by
 unfold tF;rw[if_neg (by simp[a]),if_neg (by simp[b])];simp only[bB,dk,(GC N).2.2,Int.zero_add]
theorem cW.become(k:cW base pb name room (N+1) s ms [] nk M w ws nm sv vs ma mc Mh)(x:Tm (N+1))(aA:In w.heap.size w (N+1) x)(L:cG (λb=>¬M b) (N+1) x)(E:bL (N+1) x=0)(af:aY (N+1) x=true)(m:∀b,M b->b<w.heap.size)(a4:nk<=93000)(B:ms.length<=999)(a3:base<=w.heap.size):au 180 #[aF pb,aB x.1.1 x.1.2.1 x.1.2.2 x.2.1.1 x.2.2.length x.2.1.2] w λe w'=>∃t,e=aw (.bool t)/\Hid (PN base pb name room N s ms x nk M w t w'):=by
 obtain⟨an,ao⟩:=k.box0;have a2:M pb:=k.inM pb an;have u:=k.front;have P:=u.2.2.1 s (by simp);have ay:(ms.map (sz (N+1))).sum+sz (N+1) s<=room:=by
  have ae:=u.2.2.2.1;have a1:=u.2.2.2.2.1;simp only[bB,dk]at ae;omega
 refine BA x.1.1 x.1.2.1 x.1.2.2 x.2.1.1 x.2.2.length x.2.1.2 pb w (λT U V sa sl sc f=>∃y0:Tm (N+1),(T=y0.1.1/\U=y0.1.2.1/\V=y0.1.2.2/\sa=y0.2.1.1/\sl=y0.2.2.length/\sc=y0.2.1.2)/\In f.heap.size f (N+1) y0/\cG (λa=>w.heap.size<=a) (N+1) y0/\aK (N+1) y0 (N+1) s=true) (λ_ _ _ _=>True) (PN base pb name room N s ms x nk M w) ?_ ?_ ?_
 ·intro f d;refine((k.later d).state (by omega)).mono ?_;rintro e w' ⟨aX,rfl,o⟩;exact⟨_,_,_,_,_,_,rfl,o.1,aX,⟨rfl,rfl,rfl,rfl,rfl,rfl⟩,o.2.1,o.2.2.1.mono λa O=>by have:=d.size;omega,o.2.2.2⟩
 ·intro f d;obtain⟨ad,b,c⟩:=(k.later d).cells56;exact⟨ad,b,c,ao⟩
 ·rintro T U V sa sl sc a0 j aP aQ ⟨y0,⟨rfl,rfl,rfl,rfl,rfl,rfl⟩,Q,R,q⟩ D r a5 a6 p;have a8:=r.size;obtain⟨ai,I⟩:=(k.later r).numb;have ba:=L8 j pb 1 0;have H:co M w (vg j pb 1 0):=(bC r M).trans I λ_ _ e=>e;have aC:In (vg j pb 1 0).heap.size (vg j pb 1 0) (N+1) x:=aA.kee (iF H) L;have ap:=ai.put x aC L (gI E) (λb h=>by have:=m b h;omega) (by omega) B (by omega);refine ap.mono ?_;rintro e w' ⟨W,rfl,Y⟩;obtain⟨aV,aN,bc,aT,aI,aL,aa,i,n⟩:=Y;have F:=yU (room:=room) (ms:=ms) E af;have K:co M w w':=H.trans n λ_ _ e=>e;have a9:=n.size;refine⟨W,_,rfl,⟨?_,?_,i.cells56.1,i.cells56.2.1,i.cells56.2.2⟩,trivial,?_,?_⟩
  ·exact(n.block aP (aS.1 p.1).1 λa=>by have:=m _ a;omega).trans p.1
  ·exact(n.block aQ (aS.1 p.2.1).1 λa=>by have:=m _ a;omega).trans p.2.1
  ·intro g f d;rw[if_pos g]at i;obtain⟨z,v⟩:=(i.later d).turned;rw[F]at g;have ag:(ms.map (sz (N+1))).sum+sz (N+1) x<=room:=by
    by_cases a:(ms.map (sz (N+1))).sum+sz (N+1) x<=room
    ·exact a
    ·rw[if_neg a]at g;cases g
   refine⟨by simp[ag],(K.trans (bC d M) λ_ _ e=>e).trans v λb h a=>?_,x,aV,aN,W,aT,aI,aL,aa,z.mono (λb a=>?_) (by omega),λ_=>rfl,λa=>by cases a⟩
   ·rcases a with a|a
    ·exact a
    ·omega
   ·rcases a with a|a
    ·exact ak a
    ·exact am (by omega)
  ·intro g f aR d a7 aq;rw[if_neg g]at i;have ah:¬(ms.map (sz (N+1))).sum+sz (N+1) x<=room:=λa=>g (by rw[F,if_pos a]);have al:=(i.inside.later d);have ax:=d.size;have aH:=In.offB R Q;have av:=D.size;have A:bL (N+1) y0=0/\aY (N+1) y0=true:=⟨(bP q).trans P.1,(cH _ _ _ _ q).trans P.2⟩;have aD:In j.heap.size j (N+1) y0:=(Q.below D).mono av;have S:cG (λb=>¬M b) (N+1) y0:=R.mono λa O l=>by have:=m a l;omega
   have aE:In w'.heap.size w' (N+1) y0:=(aD.kee (iF I) S).kee (iF n) S;have aG:In f.heap.size f (N+1) y0:=(aE.below d).mono ax;have G:=yU (room:=room) (ms:=ms) A.1 A.2;have az:=kY _ _ _ _ q;rw[if_pos (by rw[az];exact ay)]at G;refine(al.put y0 aG (aH.mono λa O l=>?_) (gI A.1) (λb h=>by have:=h.2;omega) (by omega) B (by omega)).mono ?_
   ·rcases l.1 with l|l
    ·have:=m a l;omega
    ·omega
   ·rintro e be ⟨X,rfl,Z⟩;obtain⟨aW,aO,bd,aU,aJ,aM,ab,y,J⟩:=Z;rw[if_pos G]at y;refine⟨X,_,rfl,λbb aj=>(J.block aR aq λa=>by have:=a.2;omega).trans aj,y.cells56,λaZ C=>?_⟩;have ar:=y.kept (jV C) λb a _ e=>by
     rcases a with a|a
     ·have:=a.2;omega
     ·omega
    obtain⟨z,v⟩:=ar.turned;refine⟨by simp[ah],?_,y0,aW,aO,X,aU,aJ,aM,ab,z.mono (λb a=>?_) (by omega),λa=>(by cases a),λ_=>q⟩
    ·refine((((K.trans (bC d M) λ_ _ e=>e).trans J λb h a=>?_).trans (jV C) λb h a=>?_)).trans v λb h a=>?_
     ·rcases a.1 with a|a
      ·exact a
      ·omega
     ·omega
     ·rcases a with a|a
      ·rcases a.1 with a|a
       ·exact a
       ·omega
      ·omega
    ·rcases a with a|a
     ·rcases a.1 with a|a
      ·exact ak a
      ·exact am (by omega)
     ·exact am (by omega)
end
theorem fX{x:Tm (n+1)}(e:bL (n+1) x=0){y:Tm n}(a:y∈x.2.2):bL n y=0:=by
 obtain⟨f1,f2,f3⟩:=bU.1 e;have c:aM ⟨n+1,x⟩:=aZ.2 f1;have g:=oW c a;have d:=eY (bR n x) (c (bR n x) (by simp[aI,bR]));have b:x.1.1=4:=by
  by_cases b:x.1.1=4
  ·exact b
  ·have:x.2.2=[]:=b9 (d.2.2.2.2 b);rw[this]at a;cases a
 have f:=vb (λy=>1+sz n y) (λy=>by have:=(fJ n y).1;omega) x.2.2 y a;simp only[sz,if_pos b]at f3
 exact bU.2 ⟨aZ.1 (bu n x y c a),by omega,by
  have h:1+sz n y<=(x.2.2.map λy=>1+sz n y).sum:=f.1
  omega⟩
theorem vA{x:Tm (n+1)}(a:bL (n+1) x=0)(i:Nat){y:Tm n}(b:x.2.2[i]?=some y):bL n y=0:=fX a (aU b)
theorem rH(c:n<=N)(x:Tm (n+1))(a:bL (N+1) (bq (N+1) (n+1) x)=0):bL (n+1) x=0:=by
 have e:aM ⟨n+1,x⟩:=λb d=>(aZ.2 (bU.1 a).1) b (by rw[oe N n c x];exact d);rw[<-bP (fS (N+1) (n+1) (by omega) x e)];exact a
def qJ{n:Nat}(c:Cl (n+1)):Prop:=bL (n+1) c.1.1=0/\bL (n+1) c.1.2.1=0/\bL (n+1) c.1.2.2=0/\c.2.2.length<=8/\∀a∈c.2.2,OD a
theorem GG{p:List (Bh (n+1))}(d:oJ n p=0):lm (n+1) p=true/\∀b∈p,b.2.2.length<=6/\∀c∈b.2.2,qJ c:=by
 unfold oJ at d;cases e:lm (n+1) p with
 | false=>rw[e]at d;cases d
 | true=>
  rw[e,if_pos rfl]at d;refine⟨rfl,λb l=>?_⟩;unfold lm at e;simp only[aT,cZ]at e;have h:=e.2 b l;unfold xY at h;simp only[aT,cZ,cV]at h;refine⟨by omega,λc m=>?_⟩;have i:=h.2 c m;unfold vD at i;simp only[aT,cZ,cV]at i;have o:bL (n+5) (eQ n b)=0:=fX d (by simp only[cY,dT];exact cd _ (jC l));have f:bL (n+4) (eD n c)=0:=fX o (by simp only[eQ,dT];exact cd _ (cd _ (jC m)));have s:bL (n+3) (dT (n+2) (c.2.2.map (cP n)))=0:=vA f 3 rfl;refine⟨rH (N:=n+2) (by omega) _ (vA f 1 rfl),rH (N:=n+2) (by omega) _ (vA f 2 rfl),rH (N:=n+2) (by omega) _ (vA f 4 rfl),by omega,λj k=>?_⟩;have g:bL (n+2) (cP n j)=0:=fX s (by simp only[dT];exact jC k);refine⟨i.2 j k,λr=>?_,λq=>?_⟩
  ·rcases r with a|a
   ·exact fX g (by simp[cP,a,dT])
   ·exact fX g (by simp[cP,a,dT])
  ·rcases q with a|a
   ·exact fX g (by simp[cP,a,dT])
   ·exact fX g (by simp[cP,a,dT])
section
variable {base db:Nat} {self:Int} {n D k:Nat} {nx:Int} {d:Dg} {w:ah} {l:List (Tm (D+1))} {bg bc:Nat} {sd:List (Int×Tm (D+1+n+1))} {sp:List (Int×aq×Tm (D+1+n+1))} {sv pv lv:az}
theorem eL.kept(a:eL base db self n D k nx d w l bg bc sd sp sv pv lv){S:aX}{w':ah}(i:bH S w w')(m:∀b,base<=b->b<w.heap.size->¬S b):eL base db self n D k nx d w' l bg bc sd sp sv pv lv:=by
 have Q:=i.size;obtain⟨L,B,v,p,R⟩:=a.own;have s:∀{g:Nat}{y:Tm g},In w.heap.size w g y->cG (MB base db bg sv pv lv) g y->In w'.heap.size w' g y:=λG H=>G.kee (i.mono (T:=λb=>S b/\b<w.heap.size) λb E f=>⟨f,E⟩) (H.mono λf h (e:S f/\f<w.heap.size)=>m f h.1 e.2 e.1);have u:∀{q:TypeId}{e g:Nat}{x:az}{z:dI},w.ownsRow base q e x g z->w'.ownsRow base q e x g z:=λ{q e g x z} t=>bD t i λf h o=>by
  obtain⟨N,F⟩:=eK t f h;refine m f ?_ (aS.1 F).1 o;rcases t.2 with⟨r,_⟩|⟨C,cap,O,r,P,_⟩
  ·rw[r]at h;cases h
  ·rw[r]at h;have:C=f:=aJ h;omega
 refine⟨(i.block db a.lt (m db B a.lt)).trans a.box,⟨L,B,v,by omega,by omega⟩,a.bnd,a.tells,λJ M I=>?_,λK=>?_,u a.sRow,u a.pRow,u a.lRow,a.sIs,a.pIs,λe o=>?_,λe o=>?_,a.apart,a.few⟩
 ·obtain⟨j,b,c⟩:=a.row J M I;exact⟨j.kee i p (m bg v p),s b c,c⟩
 ·have A:=a.free K;unfold World.frozen? at A ⊢;rw[i.block bg p (m bg v p)];exact A
 ·obtain⟨j,b,c⟩:=a.sIn e o;exact⟨j,s b c,c⟩
 ·obtain⟨j,b,c⟩:=a.pIn e o;exact⟨j,s b c,c⟩
theorem eL.low(b:eL base db self n D k nx d w l bg bc sd sp sv pv lv):∀q,mq db bg sv pv lv q->q<w.heap.size:=by
 have c:∀{f:TypeId}{i g q:Nat}{e:az}{h:dI},w.ownsRow base f i e g h->e.ownBlock=some q->q<w.heap.size:=λ{f i g q e h} m a=>by
  obtain⟨o,j⟩:=eK m q a;exact(aS.1 j).1
 intro q a;rcases a with rfl|rfl|a|a|a
 ·exact b.lt
 ·exact b.own.2.2.2.1
 ·exact c b.sRow a
 ·exact c b.pRow a
 ·exact c b.lRow a
def PT(u t:Nat)(name:aq)(room:Int)(s:Tc)(ms:List Tc)(q:Nat)(M:aX)(base db:Nat)(self:Int)(n D:Nat)(nx:Int)(c:Cl (n+1))(b:List Tc)(S:aX)(w:ah)(f:Int)(w':ah):Prop:=
 f=(fI room self nx (cn 13 s) (cn 13 s) (ms.map (cn 13)) c b).fate/\bH (λa=>M a\/S a) w w'/\(∃j z r e y o p k,cW u t name room 13 j ms [] (q+402) (λa=>M a\/w.heap.size<=a) w' z r e y o p k/\cn 13 j=(fI room self nx (cn 13 s) (cn 13 s) (ms.map (cn 13)) c b).state)/\
  ((f=0\/f=1)->∃d m g l v x e i h,eL base db self n D 8 nx d w' m g l v x e i h/\d.sends=(fI room self nx (cn 13 s) (cn 13 s) (ms.map (cn 13)) c b).sends/\d.spawns=(fI room self nx (cn 13 s) (cn 13 s) (ms.map (cn 13)) c b).spawns/\d.links=(fI room self nx (cn 13 s) (cn 13 s) (ms.map (cn 13)) c b).links/\∀a,mq db g e i h a->¬(M a\/w'.heap.size<=a))
theorem PA{ms:List Tc}(a:∀y∈ms,bL 13 y=0):((ms.map (cn 13)).map (sz 13)).sum=(ms.map (sz 13)).sum:=by
 rw[jA];congr 1;exact lF λy b=>Gd (a y b)
theorem Ew{Q I:Nat}{name:aq}{room:Int}{s:Tc}{ms:List Tc}{P:Nat}{M:aX}{ws:List Wd}{nm:bm}{an:Wd}{vs:List Wd}{ma:ay}{ag:Nat}{Mh:aX}{b:List Tc}(a5:cW Q I name room 13 s ms [] P M w ws nm an vs ma ag Mh)(T:eL base db self n D 0 nx d w l bg bc sd sp sv pv lv)(aE:d=⟨b,nx,[],[],[],false⟩)(c:Cl (n+1))(a0:iR (n+1) base w c)(bs:qJ c)(a6:1<=self/\self<=99)(L:∀q,M q->q<base)(bO:Q<=base)(br:P<=93000)(bl:ms.length<=999):au 156 #[aF I,.agg (fH (n+1) c).toArray,aF db] w λe w'=>∃f,e=aw (ae f)/\PT Q I name room s ms P M base db self n D nx c b (mq db bg sv pv lv) w f w':=by
 obtain⟨bM,bN,aV,bf,bh⟩:=bs;have aJ:=T.own.2.2.2.2;have bo:∀{h:ah},bH (mq db bg sv pv lv) w h->Below base w h:=λm=>m.below aJ λb E q=>by
  have:=T.high b q;omega
 have aK:∀{h:ah},bH (mq db bg sv pv lv) w h->cW Q I name room 13 s ms [] P M h ws nm an vs ma ag Mh:=λm=>a5.kept (N:=12) (jV m) λb E _ q=>by
  have:=L b E;have:=T.high b q;omega
 have aG:∀{h:ah},bH (mq db bg sv pv lv) w h->bH (λq=>M q\/mq db bg sv pv lv q) w h:=λm=>m.mono λq _ a=>am a;have bp:∀g∈ms,bL 13 g=0:=λg bz=>(a5.front.2.2.1 g (cd _ bz)).1
 refine Cg (D+1+n) c.1.1.1.1 c.1.1.1.2.1 c.1.1.1.2.2 c.1.1.2.1.1 c.1.1.2.2.length c.1.1.2.1.2 c.1.2.1.1.1 c.1.2.1.1.2.1 c.1.2.1.1.2.2 c.1.2.1.2.1.1 c.1.2.1.2.2.length c.1.2.1.2.1.2 c.2.1.1 c.2.2.length c.2.1.2 c.1.2.2.1.1 c.1.2.2.1.2.1 c.1.2.2.1.2.2 c.1.2.2.2.1.1 c.1.2.2.2.2.length c.1.2.2.2.1.2 I db w
  (λh=>bH (mq db bg sv pv lv) w h/\∃i x v u A B C z y,qT self c.2.2 d=some i/\eL base db self n D 8 nx i h x v u A B C z y)
  (λt g S=>∃h i x v u A B C z y,bH (mq db bg sv pv lv) w h/\qT self c.2.2 d=some i/\eL base db self n D 8 nx i h x v u A B C z y/\ap h S/\In S.heap.size S (D+1+n+1) g/\cG (λq=>h.heap.size<=q) (D+1+n+1) g/\t=(tQ i.b self (n+1) c.1.2.2).isSome/\∀r,tQ i.b self (n+1) c.1.2.2=some r->bL _ g=0/\aY _ g=true/\cn _ g=r)
  (PT Q I name room s ms P M base db self n D nx c b (mq db bg sv pv lv) w) ?_ ?_ ?_ ?_
 ·intro h Y;refine((T.later Y).all c.2.2 c.2.1.1 c.2.1.2 ?_ bh bf a6).mono ?_
  ·rcases a0.2.2 with e|⟨q,o,e,a,a1⟩
   ·exact ak e
   ·exact am ⟨q,o,e,a,λaP aU a3=>⟨λa8 bI bn=>(Y.cell (p:=⟨q,o+aP*11+a8,none⟩) (bi a aJ)).trans ((a1 aP aU a3).1 a8 bI bn),((a1 aP aU a3).2).later (Y.mono aJ)⟩⟩
  ·rintro e w' ⟨t,rfl,aB⟩;obtain⟨ao,J,aQ⟩:=aB.out;have m:bH (mq db bg sv pv lv) w w':=(aR Y _).trans ao λ_ _ e=>e;refine⟨t,rfl,λq bS a a4=>(ao.block q (aS.1 a4).1 λk=>by have:=T.low q k;omega).trans a4,λG=>⟨m,?_⟩,λaa=>?_⟩
   ·rw[G]at J;obtain⟨d2,a2⟩:=gn.1 J.symm;obtain⟨bB,be,bd,bF,bG,R,bD,bC,bA,_⟩:=aQ d2 a2;exact⟨d2,bB,be,bd,bF,bG,R,bD,bC,a2,bA⟩
   ·rw[aa]at J;have Z:qT self c.2.2 d=none:=lI.1 (by rw[<-lL,<-J];rfl);rw[aE]at Z;have j:fI room self nx (cn 13 s) (cn 13 s) (ms.map (cn 13)) c b=⟨cn 13 s,2,[],[],[],cn 13 s,ms.map (cn 13)⟩:=by simp[fI,Z]
    refine⟨by rw[j],aG m,⟨s,ws,nm,an,vs,ma,ag,Mh,(aK m).mono (N:=12) (λq a=>ak a) (by omega),by rw[j]⟩,λk=>?_⟩;omega
 ·rintro h ⟨m,i,x,v,u,A,B,C,z,y,F,K⟩;obtain⟨t1,t2⟩:=K.told (self:=self) c.1.2.2 aV;refine(K.value c.1.2.2 (a0.1.2.2.below (bo m)) aV a6 h (aH _ _)).mono ?_;rintro e w' ⟨g,rfl,bb⟩;obtain⟨y1,y2,aT,W⟩:=bb;exact⟨g,_,rfl,h,i,x,v,u,A,B,C,z,y,m,F,K,y1,y2,aT,t1,λr G=>t2 g r G W⟩
 ·rintro g S aC ⟨h,i,x,v,u,A,B,C,z,y,m,F,K,y1,_,_,W,_⟩ E;have Z:tQ i.b self (n+1) c.1.2.2=none:=lI.1 (by rw[<-lL,<-W];rfl);rw[aE]at F;have j:fI room self nx (cn 13 s) (cn 13 s) (ms.map (cn 13)) c b=⟨cn 13 s,2,[],[],[],cn 13 s,ms.map (cn 13)⟩:=by simp[fI,F,Z]
  have U:bH (mq db bg sv pv lv) w aC:=(m.trans (aR y1 (λ_=>False)) λ_ _ e=>e.elim).trans (aR E (λ_=>False)) λ_ _ e=>e.elim;refine⟨by rw[j],aG U,⟨s,ws,nm,an,vs,ma,ag,Mh,(aK U).mono (N:=12) (λq a=>ak a) (by omega),by rw[j]⟩,λk=>?_⟩;omega
 ·rintro g S aC ⟨h,i,x,v,u,A,B,C,z,y,m,F,K,y1,y2,aT,W,bJ⟩ E;obtain⟨r,G⟩:=gn.1 W.symm;obtain⟨az,bK,ba⟩:=bJ r G;rw[aE]at F;have bR:=m.size;have bQ:=y1.size;have bt:=E.size;have U:bH (mq db bg sv pv lv) w aC:=(m.trans (aR y1 (λ_=>False)) λ_ _ e=>e.elim).trans (aR E (λ_=>False)) λ_ _ e=>e.elim;have aO:aM ⟨D+1+n+1,g⟩:=aZ.2 (bU.1 az).1;have aN:gK (D+1+n+1) g<13:=by have:=(bU.1 az).2.1;omega
  have ad:=jW 13 (D+1+n+1) g aO aN;have bu:=tC 13 (D+1+n+1) g _ _ aO aN ((y2.below E).mono bt);have bw:=uY 13 (D+1+n+1) g _ aO aN aT;have bv:(bq 13 (D+1+n+1) g).2.2.length=g.2.2.length:=by simp[bq]
  have a7:cn 13 (bq 13 (D+1+n+1) g)=r:=(gC ad).trans ba;have bx:sz 13 (bq 13 (D+1+n+1) g)=sz 13 r:=by
   rw[kY _ _ _ _ ad,<-ba,Gd az]
  have aW:=(aK U).become (N:=12) (bq 13 (D+1+n+1) g) bu (bw.mono λq a k=>by have:=L q k;omega) ((bP ad).trans az) ((cH _ _ _ _ ad).trans bK) (λq k=>by have:=L q k;omega) br bl (by omega);rw[bv]at aW;refine aW.mono ?_;rintro e w' ⟨t,rfl,aB⟩;obtain⟨ao,J,ar,ax,al,R,av,af,ai,X,aQ,a9,bE⟩:=aB;have O:t=decide (((ms.map (cn 13)).map (sz 13)).sum+sz 13 r<=room):=by
   rw[PA bp,<-bx];exact ao
  have aI:bH (λq=>M q\/mq db bg sv pv lv q) w w':=(aG U).trans (iF J) λq _ a=>ak a
  have aD:cW Q I name room 13 ar ms [] (P+402) (λq=>M q\/w.heap.size<=q) w' ax al R av af ai X:=aQ.mono (N:=12) (λq a=>by
   rcases a with a|a
   ·exact ak a
   ·exact am (by omega)) (aA _)
  have H:eL base db self n D 8 nx i w' x v u A B C z y:=((K.later y1).later E).kept (iF J) λq a _ k=>by
   have:=L q k;omega
  refine⟨t,rfl,λaa=>?_,λab=>⟨i.stops,aj H.box 6,λaL=>?_,λaL=>?_⟩⟩
  ·rw[aa]at O;have V:¬((ms.map (cn 13)).map (sz 13)).sum+sz 13 r<=room:=of_decide_eq_false O.symm;have j:fI room self nx (cn 13 s) (cn 13 s) (ms.map (cn 13)) c b=⟨cn 13 s,3,[],[],[],cn 13 s,ms.map (cn 13)⟩:=by
    unfold fI;simp only[F,G];rw[if_neg V]
   refine⟨by rw[j],aI,⟨ar,ax,al,R,av,af,ai,X,aD,by rw[j];exact gC (bE aa)⟩,λk=>?_⟩;omega
  ·rw[ab]at O;have V:((ms.map (cn 13)).map (sz 13)).sum+sz 13 r<=room:=iy O.symm;have j:fI room self nx (cn 13 s) (cn 13 s) (ms.map (cn 13)) c b=⟨cn 13 s,1,i.sends,i.spawns,i.links,r,ms.map (cn 13)⟩:=by
    unfold fI;simp only[F,G];rw[if_pos V,aL];rfl
   refine⟨by rw[j],aI,⟨ar,ax,al,R,av,af,ai,X,aD,by rw[j,a9 ab];exact a7⟩,λ_=>⟨i,x,v,u,A,B,C,z,y,H,by rw[j],by rw[j],by rw[j],λq a k=>?_⟩⟩;have bj:=H.high q a;have bk:=H.low q a;rcases k with k|k
   ·have:=L q k;omega
   ·omega
  ·rw[ab]at O;have V:((ms.map (cn 13)).map (sz 13)).sum+sz 13 r<=room:=iy O.symm;have j:fI room self nx (cn 13 s) (cn 13 s) (ms.map (cn 13)) c b=⟨cn 13 s,0,i.sends,i.spawns,i.links,r,ms.map (cn 13)⟩:=by
    unfold fI;simp only[F,G];rw[if_pos V,aL];rfl
   refine⟨by rw[j],aI,⟨ar,ax,al,R,av,af,ai,X,aD,by rw[j,a9 ab];exact a7⟩,λ_=>⟨i,x,v,u,A,B,C,z,y,H,by rw[j],by rw[j],by rw[j],λq a k=>?_⟩⟩;have bj:=H.high q a;have bk:=H.low q a;rcases k with k|k
   ·have:=L q k;omega
   ·omega
end
def QM{n:Nat}(c:Cl (n+1)):az:=.agg #[ae c.1.1.1.1,ae c.1.1.1.2.1,ag c.1.1.1.2.2,af c.1.1.2.1.1 c.1.1.2.2.length c.1.1.2.1.2,ae c.1.2.1.1.1,ae c.1.2.1.1.2.1,ag c.1.2.1.1.2.2,af c.1.2.1.2.1.1 c.1.2.1.2.2.length c.1.2.1.2.1.2,af c.2.1.1 c.2.2.length c.2.1.2,ae c.1.2.2.1.1,ae c.1.2.2.1.2.1,ag c.1.2.2.1.2.2,af c.1.2.2.2.1.1 c.1.2.2.2.2.length c.1.2.2.2.1.2]
def QT{N:Nat}(x:Tm (N+1)):List az:=[ae x.1.1,ae x.1.2.1,ag x.1.2.2,af x.2.1.1 x.2.2.length x.2.1.2]
def Qq{N:Nat}(x:Tm (N+1)):az:=aB x.1.1 x.1.2.1 x.1.2.2 x.2.1.1 x.2.2.length x.2.1.2
def D5{n N:Nat}(i:Nat)(y:Tm (N+1))(c:Cl (n+1))(a:ay)(len b:Nat):List az:=ae i::(QT y++fH (n+1) c++ [af a len b])
def Hf:List az:=[ae 0,ae 0,ae 0,ag ⟨#[]⟩,af none 0 0,ae 0,ae 0,ag ⟨#[]⟩,af none 0 0,ae 0,ae 0,ag ⟨#[]⟩,af none 0 0,af none 0 0,ae 0,ae 0,ag ⟨#[]⟩,af none 0 0,af none 0 0]
def Q0{n N:Nat}(l:List (Cl (n+1)))(M L:Nat)(g:Nat->Nat->Bool)(R:Tm (N+1)->List (Tm (N+1))->bF)(r:Nat->Nat->ay->Nat->Nat->ah->bF)(w:ah)(e:Ending)(w':ah):Prop:=
 (e=aw (ax #[.agg Hf.toArray,.bool false])/\Hid ((∀a d,a<M->d<L->g a d=false)/\ap w w'))\/
  ∃(a d:Nat)(p:Tm (N+1))(c:Cl (n+1))(k:ay)(len m:Nat),e=aw (ax #[.agg (D5 a p c k len m).toArray,.bool true])/\Hid (∃s q h i j,R s q h/\q[a]?=some p/\l[d]?=some c/\g a d=true/\(∀o f,o<a->f<L->g o f=false)/\(∀f,f<d->g a f=false)/\ap w h/\ap h i/\ap i j/\r a d k len m i j/\bH (λb=>b=w.heap.size) j w'/\w.heap.size<h.heap.size)
theorem results_cell_tmp{P:Program}{fn:Func}{a:Array az}{j:Nat}{ty:TypeId}{p:Addr}{v x:az}(c:fn.results= #[.cell i ty,.tmp j])(b:a.getD i undef=.pointer (some p))(d:(loadVar ty p).run P w=.ok v w)(e:a.getD j undef=x):(results fn a).run P w=.ok (ax #[v,x]) w:=by
 simp only[results,c];rw[<-e];rw[Array.getD_eq_getD_getElem?]at b;simp[b,asAddr,d]
theorem je:(Tryz.prog.info? 237).map (·.size)=some 19:=by kernel_rfl
theorem F9:(Hf.toArray.all (·.oneCell'))=true:=all_oneCell_toArray λv a=>by
 simp only[Hf,cr,gj,gq]at a;rcases a with rfl|rfl|rfl|rfl|rfl|rfl|rfl|rfl|rfl|rfl|rfl|rfl|rfl|rfl|rfl|rfl|rfl|rfl|rfl<;>rfl
theorem Ga(i:Nat)(y:Tm (N+1))(c:Cl (n+1))(a:ay)(len d:Nat):((D5 i y c a len d).toArray.all (·.oneCell'))=true:=all_oneCell_toArray λv b=>by
 have b:v∈[Value.int .i64 i,ae y.1.1,ae y.1.2.1,ag y.1.2.2,af y.2.1.1 y.2.2.length y.2.1.2,ae c.1.1.1.1,ae c.1.1.1.2.1,ag c.1.1.1.2.2,af c.1.1.2.1.1 c.1.1.2.2.length c.1.1.2.1.2,ae c.1.2.1.1.1,ae c.1.2.1.1.2.1,ag c.1.2.1.1.2.2,af c.1.2.1.2.1.1 c.1.2.1.2.2.length c.1.2.1.2.1.2,af c.2.1.1 c.2.2.length c.2.1.2,ae c.1.2.2.1.1,ae c.1.2.2.1.2.1,ag c.1.2.2.1.2.2,af c.1.2.2.2.1.1 c.1.2.2.2.2.length c.1.2.2.2.1.2,af a len d]:=b;simp only[cr,gj,gq]at b;rcases b with rfl|rfl|rfl|rfl|rfl|rfl|rfl|rfl|rfl|rfl|rfl|rfl|rfl|rfl|rfl|rfl|rfl|rfl|rfl<;>rfl
theorem dR{b:Nat}{C:Array az}(a:w.heap[b]?=some (.cells C t (0,0))):w.there b 0 C.size:=λj c=>by
 simp only[World.cell?,World.frozen?,a,cC];simp[c]
theorem eO(b:Nat):(cs:dI)->(o:Nat)->(w:ah)->bH (λq=>q=b) w (w.setCells b o cs)/\(w.setCells b o cs).heap.size=w.heap.size
 | [],_,w=>⟨bH.refl _ _,rfl⟩
 | v::cs,o,w=>by
  obtain⟨a,c⟩:=eO b cs (o+1) (w.setCell ⟨b,o,none⟩ v);rw[World.setCells];exact⟨(bO w b o v).trans a λ_ _ e=>e,c.trans (by simp[World.setCell])⟩
theorem BG(bg:Nat)(l:List (Cl (n+1)))(b4:ay)(L ck M:Nat)(w:ah)(D:Nat->Nat->Bool)(R:Tm (N+1)->List (Tm (N+1))->bF)(bh:Nat->Nat->ay->Nat->Nat->ah->bF)(cz:L<=1000000)(cA:M<=1000000)(ca:Hid (l.length=L))(b9:Hid (∀(i:Nat)(c:Cl (n+1)),l[i]?=some c->∃b o,b4=some ⟨b,o,none⟩/\b<w.heap.size/\∀(j:Nat)(r:az),(fH (n+1) c)[j]?=some r->ai w b (o+i*13+j) r))(bv:Hid (∀W,ap w W->w.heap.size<W.heap.size->au 93 #[aF bg] W λe w'=>∃s:Tm (N+1),e=aw (Qq s)/\Hid (ap W w'/\ ∀a8,ap w' a8->au 94 #[aF bg] a8 λe a0=>∃ma b5 ys,e=aw (af ma M b5)/\Hid (ys.length=M/\ap a8 a0/\(∀(i:Nat)(y:Tm (N+1)),ys[i]?=some y->∃g o,ma=some ⟨g,o,none⟩/\g<a0.heap.size/\∀(j:Nat)(r:az),(QT y)[j]?=some r->ai a0 g (o+i*4+j) r)/\R s ys a0))))(b8:Hid (∀s ys w0 W i j y c,R s ys w0->ap w0 W->ys[i]?=some y->l[j]?=some c->au 177 #[QM c,Qq s,Qq y] W λe w'=>∃a len bL,e=aw (ax #[af a len bL,.bool (D i j)])/\Hid (ap W w'/\(D i j=true->bh i j a len bL W w')))):au 153 #[aF bg,af b4 L ck] w (Q0 l M L D R bh w):=by
 have bw:Hid (∃w0 k x,(w0=w.alloc x/\k=w.heap.size/\x=.cells #[ae 0,ae 0,ae 0,ag ⟨#[]⟩,af none 0 0,ae 0,ae 0,ag ⟨#[]⟩,af none 0 0,ae 0,ae 0,ag ⟨#[]⟩,af none 0 0,af none 0 0,ae 0,ae 0,ag ⟨#[]⟩,af none 0 0,af none 0 0] 237)/\ap w w0/\w0.heap[k]?=some x/\w.heap.size<w0.heap.size/\Hid (k=w.heap.size)):=⟨_,_,_,⟨rfl,rfl,rfl⟩,aW _ _,aL _ _,by simp,rfl⟩;go_enter func153,ntmps153;go_wp2_with fail;obtain⟨w0,d,x,⟨bc,bX,bb⟩,bN,bQ,bW,bt⟩:=bw.out;rw[bb]at bc;rw[<-bc,<-bX];have aU:=av bN;have a5:=av bQ;have br:=av bb;have bo:=av bW;clear bc bX bb bN bQ bW bw;refine(bv _ aU bo).mono ?_;rintro e a1 ⟨s,rfl,X⟩;unfold Qq;have a2:=av (aU.trans (X.1.mono aU.size));have cb:=av (bi bo X.1.size);have bq:=av X.2;have bA:Hid (∃O k,(O=a1.alloc (.cells #[ae s.1.1,ae s.1.2.1,ag s.1.2.2,af s.2.1.1 s.2.2.length s.2.1.2] 54)/\k=a1.heap.size)/\ap a1 O/\O.heap[k]?=some (.cells #[ae s.1.1,ae s.1.2.1,ag s.1.2.2,af s.2.1.1 s.2.2.length s.2.1.2] 54)):=⟨_,_,⟨rfl,rfl⟩,aW _ _,aL _ _⟩;have a6:Hid (a1.heap[d]?=some x):=(X.1.block d (aS.1 a5).1).trans a5;clear X bv a5 aU;go_upto_region 2 with fail;obtain⟨O,aA,⟨b1,bY⟩,ao,bR⟩:=bA.out;rw[<-b1,<-bY];have a3:=av (a2.trans (ao.mono a2.size));have Z:Hid (O.heap[d]?=some x/\O.heap[aA]?=some (.cells #[ae s.1.1,ae s.1.2.1,ag s.1.2.2,af s.2.1.1 s.2.2.length s.2.1.2] 54)):=⟨(ao.block d (aS.1 a6).1).trans a6,bR⟩;have bp:=av (bq O ao);have cc:=av (bi cb ao.size);clear b1 bY ao bR bA bq a6 a2;go_wp2_with fail;refine bp.mono ?_;rintro e U ⟨ma,b5,ys,rfl,E⟩;have Q:=av (a3.trans (E.2.1.mono a3.size));have cd:=av (bi cc E.2.1.size);have S:Hid (U.heap[d]?=some x/\U.heap[aA]?=some (.cells #[ae s.1.1,ae s.1.2.1,ag s.1.2.2,af s.2.1.1 s.2.2.length s.2.1.2] 54)):=⟨(E.2.1.block d (aS.1 Z.1).1).trans Z.1,(E.2.1.block aA (aS.1 Z.2).1).trans Z.2⟩;have ce:=av E.1;have bC:=av E.2.2.1;have bu:=av E.2.2.2;clear E bp Z a3;go_wp2_with fail;go_loopw [18] (λi wr=>∃be:Nat,be<=M/\i=ae be/\Hid (ap U wr/\∀a b,a<be->b<L->D a b=false)) (λi _=>M-(intOf i).toNat)
 case atStart=>exact⟨0,aN _,rfl,aH _ _,λa b cf=>by omega⟩
 case round=>
  obtain⟨i,cB,rfl,A⟩:=hrel;by_cases ch:i<M;rotate_left
  ·obtain rfl:i=M:=by omega
   have K:Hid (wr.there d 0 19):=by
    have an:wr.heap[d]?=some x:=(A.1.block d (aS.1 S.1).1).trans S.1;rw[br.out]at an;exact dR an
   go_upto_region 13 with fail;go_step;go_step;go_step;go_step;have B:Hid (∃wf,wf=wr.setCells d 0 Hf.toArray.toList/\Hid (wf.rangeAt d 0 Hf/\bH (λk=>k=d) wr wf)):=⟨_,rfl,World.rangeAt_setCells_same wr d 0 Hf K,(eO d _ 0 wr).1⟩;refine wpList_store_mid rfl 237 (.tmp 4) (.tmp 44) rfl d 0 Hf.toArray rfl rfl K je F9 ?_;obtain⟨wf,ar,B⟩:=B.out;rw[<-ar];clear ar K;go_wp2_with fail;have ba:=run_loadVar_mid (P:=Tryz.prog) wf d 0 237 Hf _ B.1 underlying237 rfl je;refine aE (v:=ax #[.agg Hf.toArray,.bool false]) (results_cell_tmp results153 rfl ba rfl) rfl ?_;exact ak ⟨rfl,λa b bM T=>A.2 a b bM T,(Q.trans (A.1.mono Q.size)).trans (B.2.below (by have:=Q.size;have:=A.1.size;omega) λb T e=>by have:=bt.out;omega)⟩
  ·obtain⟨y,bd⟩:∃y,ys[i]?=some y:=⟨ys[i]'(by rw[ce.out];exact ch),aV _⟩;have bB:=av bd;obtain⟨g,o,rfl,cg,bk⟩:=bC.out i y bd;have f:∀(j:Nat)(r:az),(QT y)[j]?=some r->ai wr g (o+i*4+j) r:=λj r bU=>(A.1.cell (p:=⟨g,o+i*4+j,none⟩) cg).trans (bk j r bU);have cl:ai wr g (o+i*4) (ae y.1.1):=f 0 _ rfl;have cm:ai wr g (o+i*4+1) (ae y.1.2.1):=f 1 _ rfl;have cn:ai wr g (o+i*4+2) (ag y.1.2.2):=f 2 _ rfl;have co:ai wr g (o+i*4+3) (af y.2.1.1 y.2.2.length y.2.1.2):=f 3 _ rfl;have cC:(0:Int)<=(i:Int):=by omega
   have cD:(i:Int)<(M:Int):=by omega
   have bz:Hid (∃V k,(V=wr.alloc (.cells #[ae y.1.1,ae y.1.2.1,ag y.1.2.2,af y.2.1.1 y.2.2.length y.2.1.2] 54)/\k=wr.heap.size)/\ap wr V/\V.heap[k]?=some (.cells #[ae y.1.1,ae y.1.2.1,ag y.1.2.2,af y.2.1.1 y.2.2.length y.2.1.2] 54)):=⟨_,_,⟨rfl,rfl⟩,aW _ _,aL _ _⟩;clear f bk bd;go_wp2_with fail;obtain⟨V,aZ,⟨b2,bZ⟩,bO,bS⟩:=bz.out;rw[<-b2,<-bZ];have Y:=av (A.1.trans (bO.mono A.1.size));have bs:=av bS;have bD:=av A.2;clear b2 bZ bO bS bz cl cm cn co A bC;go_loopw [25] (λj wr=>∃bf:Nat,bf<=L/\j=ae bf/\Hid (ap V wr/\∀b,b<bf->D i b=false)) (λj _=>L-(intOf j).toNat)
   case atStart=>exact⟨0,aN _,rfl,aH _ _,λb cf=>by omega⟩
   case round=>
    obtain⟨j,bU,rfl,J⟩:=hrel;by_cases ci:j<L;rotate_left
    ·obtain rfl:j=L:=by omega
     have a4:Hid (ap U wr/\∀a b,a<i+1->b<j->D a b=false):=⟨Y.trans (J.1.mono Y.size),λa b bM T=>by
      by_cases e:a=i
      ·rw[e];exact J.2 b T
      ·exact bD a b (by omega) T⟩
     go_wp2_with fail;go_roundw
     case rel=>exact⟨i+1,by omega,by go_num,a4⟩
     case measure=>simp[intOf];omega
    ·obtain⟨c,a9⟩:∃c,l[j]?=some c:=⟨l[j]'(by rw[ca.out];exact ci),aV _⟩;obtain⟨q,lo,rfl,cj,bl⟩:=b9 j c a9;have bm:=av a9;have bj:=av (Q.trans (Y.mono Q.size));have b7:=av (bj.trans (J.1.mono bj.size));have f:∀(t:Nat)(r:az),(fH (n+1) c)[t]?=some r->ai wr q (lo+j*13+t) r:=λt r aq=>(b7.cell (p:=⟨q,lo+j*13+t,none⟩) cj).trans (bl t r aq);have y0:ai wr q (lo+j*13) (ae c.1.1.1.1):=f 0 _ rfl;have y1:ai wr q (lo+j*13+1) (ae c.1.1.1.2.1):=f 1 _ rfl;have y2:ai wr q (lo+j*13+2) (ag c.1.1.1.2.2):=f 2 _ rfl;have cs:ai wr q (lo+j*13+3) (af c.1.1.2.1.1 c.1.1.2.2.length c.1.1.2.1.2):=f 3 _ rfl;have ct:ai wr q (lo+j*13+4) (ae c.1.2.1.1.1):=f 4 _ rfl;have cu:ai wr q (lo+j*13+5) (ae c.1.2.1.1.2.1):=f 5 _ rfl;have cv:ai wr q (lo+j*13+6) (ag c.1.2.1.1.2.2):=f 6 _ rfl;have cw:ai wr q (lo+j*13+7) (af c.1.2.1.2.1.1 c.1.2.1.2.2.length c.1.2.1.2.1.2):=f 7 _ rfl;have cx:ai wr q (lo+j*13+8) (af c.2.1.1 c.2.2.length c.2.1.2):=f 8 _ rfl;have cy:ai wr q (lo+j*13+9) (ae c.1.2.2.1.1):=f 9 _ rfl;have cp:ai wr q (lo+j*13+10) (ae c.1.2.2.1.2.1):=f 10 _ rfl;have cq:ai wr q (lo+j*13+11) (ag c.1.2.2.1.2.2):=f 11 _ rfl;have cr:ai wr q (lo+j*13+12) (af c.1.2.2.2.1.1 c.1.2.2.2.2.length c.1.2.2.2.1.2):=f 12 _ rfl;have cE:(0:Int)<=(j:Int):=by omega
     have cF:(j:Int)<(L:Int):=by omega
     have bx:Hid (∃C k,(C=wr.alloc (.cells #[ae c.1.1.1.1,ae c.1.1.1.2.1,ag c.1.1.1.2.2,af c.1.1.2.1.1 c.1.1.2.2.length c.1.1.2.1.2,ae c.1.2.1.1.1,ae c.1.2.1.1.2.1,ag c.1.2.1.1.2.2,af c.1.2.1.2.1.1 c.1.2.1.2.2.length c.1.2.1.2.1.2,af c.2.1.1 c.2.2.length c.2.1.2,ae c.1.2.2.1.1,ae c.1.2.2.1.2.1,ag c.1.2.2.1.2.2,af c.1.2.2.2.1.1 c.1.2.2.2.2.length c.1.2.2.2.1.2] 229)/\k=wr.heap.size)/\ap wr C/\C.heap[k]?=some (.cells #[ae c.1.1.1.1,ae c.1.1.1.2.1,ag c.1.1.1.2.2,af c.1.1.2.1.1 c.1.1.2.2.length c.1.1.2.1.2,ae c.1.2.1.1.1,ae c.1.2.1.1.2.1,ag c.1.2.1.1.2.2,af c.1.2.1.2.1.1 c.1.2.1.2.2.length c.1.2.1.2.1.2,af c.2.1.1 c.2.2.length c.2.1.2,ae c.1.2.2.1.1,ae c.1.2.2.1.2.1,ag c.1.2.2.1.2.2,af c.1.2.2.2.1.1 c.1.2.2.2.2.length c.1.2.2.2.1.2] 229)):=⟨_,_,⟨rfl,rfl⟩,aW _ _,aL _ _⟩;clear f bl a9;go_upto_region 8 with fail;obtain⟨C,b6,⟨b3,b0⟩,bP,bT⟩:=bx.out;rw[<-b3,<-b0];have aY:=av (J.1.trans (bP.mono J.1.size));have aX:=av (Y.trans (aY.mono Y.size));have m:=av bT;have bE:=av J.2;have u:Hid (C.heap[d]?=some x/\C.heap[aA]?=some (.cells #[ae s.1.1,ae s.1.2.1,ag s.1.2.2,af s.2.1.1 s.2.2.length s.2.1.2] 54)/\C.heap[aZ]?=some (.cells #[ae y.1.1,ae y.1.2.1,ag y.1.2.2,af y.2.1.1 y.2.2.length y.2.1.2] 54)):=⟨(aX.block d (aS.1 S.1).1).trans S.1,(aX.block aA (aS.1 S.2).1).trans S.2,(aY.block aZ (aS.1 bs).1).trans bs⟩;clear b3 b0 bP bT bx J y0 y1 y2 cs ct cu cv cw cx cy cp cq cr;have aB:=aj m 0;have aC:=aj m 1;have aJ:=aj m 2;have aK:=aj m 3;have aM:=aj m 4;have aO:=aj m 5;have aP:=aj m 6;have aQ:=aj m 7;have aR:=aj m 8;have aT:=aj m 9;have aD:=aj m 10;have aG:=aj m 11;have aI:=aj m 12;have bG:=aj u.2.1 0;have aa:=aj u.2.2 0;have bI:=aj u.2.1 1;have ab:=aj u.2.2 1;have bJ:=aj u.2.1 2;have ad:=aj u.2.2 2;have bK:=aj u.2.1 3;have al:=aj u.2.2 3;simp only[dn,dA]at aB aC aJ aK aM aO aP aQ aR aT aD aG aI bG bI bJ bK aa ab ad al;have bn:=av (b8 s ys U C i j y c bu aX bB bm);go_wp2_with fail;refine bn.mono ?_;rintro e z ⟨F,H,G,rfl,I⟩;clear aB aC aJ aK aM aO aP aQ aR aT aD aG aI bG bI bJ bK aa ab ad al bn;obtain⟨t,aq⟩:∃t,t=D i j:=⟨_,rfl⟩;rw[<-aq];have a7:=av aq;clear aq;cases t
     ·have a4:Hid (ap V z/\∀b,b<j+1->D i b=false):=⟨aY.trans (I.1.mono aY.size),λb T=>by
        by_cases e:b=j
        ·rw[e];exact a7.symm
        ·exact bE b (by omega)⟩
      clear I;go_wp2_with fail;go_roundw
      case rel=>exact⟨j+1,by omega,by go_num,a4⟩
      case measure=>simp[intOf];omega
     ·have h:Hid (z.heap[d]?=some x/\z.heap[aZ]?=some (.cells #[ae y.1.1,ae y.1.2.1,ag y.1.2.2,af y.2.1.1 y.2.2.length y.2.1.2] 54)/\z.heap[b6]?=some (.cells #[ae c.1.1.1.1,ae c.1.1.1.2.1,ag c.1.1.1.2.2,af c.1.1.2.1.1 c.1.1.2.2.length c.1.1.2.1.2,ae c.1.2.1.1.1,ae c.1.2.1.1.2.1,ag c.1.2.1.1.2.2,af c.1.2.1.2.1.1 c.1.2.1.2.2.length c.1.2.1.2.1.2,af c.2.1.1 c.2.2.length c.2.1.2,ae c.1.2.2.1.1,ae c.1.2.2.1.2.1,ag c.1.2.2.1.2.2,af c.1.2.2.2.1.1 c.1.2.2.2.2.length c.1.2.2.2.1.2] 229)):=⟨(I.1.block d (aS.1 u.1).1).trans u.1,(I.1.block aZ (aS.1 u.2.2).1).trans u.2.2,(I.1.block b6 (aS.1 m).1).trans m⟩;have K:Hid (z.there d 0 19):=by
       have an:=h.1;rw[br.out]at an;exact dR an
      have aB:=aj h.2.2 0;have aC:=aj h.2.2 1;have aJ:=aj h.2.2 2;have aK:=aj h.2.2 3;have aM:=aj h.2.2 4;have aO:=aj h.2.2 5;have aP:=aj h.2.2 6;have aQ:=aj h.2.2 7;have aR:=aj h.2.2 8;have aT:=aj h.2.2 9;have aD:=aj h.2.2 10;have aG:=aj h.2.2 11;have aI:=aj h.2.2 12;have aa:=aj h.2.1 0;have ab:=aj h.2.1 1;have ad:=aj h.2.1 2;have al:=aj h.2.1 3;simp only[dn,dA]at aB aC aJ aK aM aO aP aQ aR aT aD aG aI aa ab ad al;go_upto_region 10 with fail
      iterate 16 go_step
      have B:Hid (∃wf,wf=z.setCells d 0 (D5 i y c F H G).toArray.toList/\Hid (wf.rangeAt d 0 (D5 i y c F H G)/\bH (λk=>k=d) z wf)):=⟨_,rfl,World.rangeAt_setCells_same z d 0 (D5 i y c F H G) K,(eO d _ 0 z).1⟩;refine wpList_store_mid rfl 237 (.tmp 4) (.tmp 41) rfl d 0 (D5 i y c F H G).toArray rfl rfl K je (Ga i y c F H G) ?_;obtain⟨wf,ar,B⟩:=B.out;rw[<-ar];have ba:=av (run_loadVar_mid (P:=Tryz.prog) wf d 0 237 (D5 i y c F H G) _ B.1 underlying237 rfl je);clear ar K aB aC aJ aK aM aO aP aQ aR aT aD aG aI aa ab ad al;go_wp2_with fail;refine aE (v:=ax #[.agg (D5 i y c F H G).toArray,.bool true]) (results_cell_tmp results153 rfl ba rfl) rfl ?_;refine am ⟨i,j,y,c,F,H,G,rfl,s,ys,U,C,z,bu,bB,bm,a7.symm,bD,bE,Q,aX,I.1,I.2 a7.symm,?_,cd⟩;have bV:=B.2;rw[bt.out]at bV;exact bV
theorem tf{n:Nat}(s m:Tc):(l:List (Cl (n+1)))->(∀c∈l,mm c s m=none)->mX s m l=none
 | [],_=>rfl
 | c::l,h=>by
  simp only[mX,h c (by simp)];exact tf s m l λc a=>h c (cd _ a)
theorem yf{n:Nat}(s m:Tc):(l:List (Cl (n+1)))->(j:Nat)->(c:Cl (n+1))->(B:List Tc)->l[j]?=some c->mm c s m=some B->(∀d b,d<j->l[d]?=some b->mm b s m=none)->mX s m l=some (c,B)
 | [],j,c,B,h,_,_=>by simp at h
 | a::l,0,c,B,h,hB,_=>by
  simp only[dn,iv]at h;subst h;simp only[mX,hB]
 | a::l,j+1,c,B,h,hB,hn=>by
  simp only[mX,hn 0 a (by omega) rfl];exact yf s m l j c B (by simpa using h) hB λd b f e=>hn (d+1) b (by omega) (by simpa using e)
theorem BH{n:Nat}(l:List (Cl (n+1)))(s:Tc):(ms:List Tc)->(k:Nat)->(∀m∈ms,mX s m l=none)->td l s ms k=none
 | [],_,_=>rfl
 | m::ms,k,h=>by
  simp only[td,h m (by simp)];exact BH l s ms (k+1) λm a=>h m (cd _ a)
theorem BI{n:Nat}(l:List (Cl (n+1)))(s:Tc):(ms:List Tc)->(k i:Nat)->(m:Tc)->(x:Cl (n+1)×List Tc)->ms[i]?=some m->mX s m l=some x->(∀b c,b<i->ms[b]?=some c->mX s c l=none)->td l s ms k=some (k+i,x)
 | [],k,i,m,x,h,_,_=>by simp at h
 | a::ms,k,0,m,x,h,hx,_=>by
  simp only[dn,iv]at h;subst h;simp only[td,hx,jD]
 | a::ms,k,i+1,m,x,h,hx,hn=>by
  simp only[td,hn 0 a (by omega) rfl];rw[BI l s ms (k+1) i m x (by simpa using h) hx λb c e d=>hn (b+1) c (by omega) (by simpa using d)];congr 2;omega
def QZ{n:Nat}(l:List (Cl (n+1)))(s:Tc)(ms:List Tc)(w:ah)(e:Ending)(w':ah):Prop:=
 (td l s ms 0=none/\e=aw (ax #[.agg Hf.toArray,.bool false])/\Hid (ap w w'))\/
  ∃(d:Nat)(a:Tc)(c:Cl (n+1))(b g:Nat),e=aw (ax #[.agg (D5 d a c (some ⟨b,0,none⟩) 4 g).toArray,.bool true])/\Hid (∃f i j,td l s ms 0=some (d,c,f)/\c∈l/\ms[d]?=some (cn 13 a)/\bL 13 a=0/\ap w w'/\In w'.heap.size w' 13 a/\cG (λh=>w.heap.size<h/\h≠b) 13 a/\rM (i+1) j f (w.heap.size+1) w' b g)
theorem rM.kept{D:Nat}{l:List (Tm D)}{B:List Tc}{e:Nat}{w w':ah}{c g q:Nat}(a:rM D l B e w c g)(d:bH (λb=>b=q) w w')(v:q<e):rM D l B e w' c g:=by
 obtain⟨k,f⟩:=a.new;have i:¬c=q:=by omega
 refine⟨a.bnd,a.tells,a.cap,⟨k,bi f d.size⟩,λo t n=>?_,λp=>?_⟩
 ·obtain⟨r,s,j⟩:=a.at' o t n;exact⟨r.kee d f i,s.kee d (j.mono λx m u=>by have:=m.1;omega),j⟩
 ·have h:=a.free p;unfold World.frozen? at h ⊢;rw[d.block c f i];exact h
theorem rM.mono{D:Nat}{l:List (Tm D)}{B:List Tc}{e f:Nat}{w:ah}{h g:Nat}(a:rM D l B e w h g)(j:f<=e):rM D l B f w h g:=
 ⟨a.bnd,a.tells,a.cap,⟨by have:=a.new.1;omega,a.new.2⟩,λc d b=>⟨(a.at' c d b).1,(a.at' c d b).2.1,(a.at' c d b).2.2.mono λk i=>⟨by omega,i.2⟩⟩,a.free⟩
theorem D6(aw:cW a e name room 13 s ms [] h M w ws nm d vs ma u Mh)(l:List (Cl (n+1)))(aB:ay)(a4 B:Nat)(aT:Lay B w 13 (fH (n+1)) (iR (n+1) B w) aB l)(aL:B<=w.heap.size)(bB:∀c∈l,qJ c)(a0:h<=95000)(bi:ms.length<=1000)(bw:l.length<=1000000):au 153 #[aF e,af aB l.length a4] w (QZ l (cn 13 s) (ms.map (cn 13)) w):=by
 have aR:=aw.front;have a3:=aR.2.2.1 s (by simp);have aZ:∀m∈ms,bL 13 m=0/\aY 13 m=true:=λm ao=>aR.2.2.1 m (cd _ ao)
 refine(BG (N:=12) e l aB l.length a4 ms.length w (λg t=>match l[t]?,ms[g]? with
     | some c,some m=>(mm c (cn 13 s) (cn 13 m)).isSome
     | _,_=>false)
  (λK L A=>aK 13 K 13 s=true/\In A.heap.size A 13 K/\aO (λv b=>aK 13 v 13 b) L ms=true/\ap w A/\∀j∈L,In A.heap.size A 13 j/\cG (λZ=>w.heap.size<Z) 13 j)
  (λg t v len P y be=>∃c m q x J C,l[t]?=some c/\ms[g]?=some m/\mm c (cn 13 s) (cn 13 m)=some q/\v=some ⟨C,0,none⟩/\len=4/\rM (x+1) J q y.heap.size be C P) bw (by omega) rfl ?_ ?_ ?_).mono ?_
 ·intro g c F;rcases aT with p|⟨b,o,p,aN,i⟩
  ·rw[p]at F;simp at F
  ·exact⟨b,o,p,by omega,(i g c F).1⟩
 ·intro y r bx;refine((aw.later (N:=12) r).state (N:=12) a0).mono ?_;rintro p bZ ⟨j,rfl,bc⟩;obtain⟨y1,y2,ba,bQ⟩:=bc;refine⟨j,rfl,y1,λaE S=>?_⟩;have E:=r.trans (y1.mono r.size);have z:=E.trans (S.mono E.size);refine((aw.later (N:=12) z).mails (N:=12) a0 bi).mono ?_;rintro p bO ⟨L,bd,v,c,rfl,bb⟩;obtain⟨a5,Y,a6⟩:=bb;have bk:bd=ms.length:=by rw[<-a5];exact cX _ _ _ a6
  subst bk;have T:ap aE bO:=Y.1;have bX:=r.size;have a1:=y1.size;have a2:=S.size;obtain⟨bT,ae,Q,aH,ag,_⟩:=fE.lay (eE 13) (f:=kZ 13) (λ_=>rfl) Y;injection Q with Q bU bV;subst Q;refine⟨v,c,L,rfl,a5,T,λg ad H=>?_,bQ,((y2.below S).mono S.size |>.below T).mono T.size,a6,z.trans (T.mono z.size),λad H=>⟨(Y.2.2 ad H).1,(Y.2.2 ad H).2.mono λZ X=>?_⟩⟩
  ·rcases ag with ag|⟨bh,o,bg,U,i⟩
   ·rw[ag]at H;simp at H
   ·exact⟨bh,o,bg,U,(i g ad H).1⟩
  ·rcases X.1 with bS|bS
   ·omega
   ·omega
 ·rintro K L A y g t j c ⟨aa,a9,ab,aC,aD⟩ r G i;have bD:=aU G;have bv:g<ms.length:=by
   have:=(bj.1 G).1;rw[cX _ _ _ ab]at this;exact this
  have av:ms[g]?=some ms[g]:=aV bv;have I:=j0 _ _ _ ab g j ms[g] G av;have W:=aZ ms[g] (gi _);have br:=aU i;obtain⟨bI,bJ,_⟩:=bB c br;have bp:iR (n+1) B w c:=by
   rcases aT with p|⟨b,o,p,aN,bo⟩
   ·rw[p]at i;simp at i
   ·exact(bo t c i).2
  have aQ:=aC.trans (r.mono aC.size);have bn:iR (n+1) y.heap.size y c:=(eN (n+1)).mono (aG aL aQ.size) ((eN (n+1)).below (aQ.mono aL) bp);have bt:=I6 c (n:=n) (m:=12) (k:=12) K j y.heap.size y bn ((a9.below r).mono r.size) (((aD j bD).1.below r).mono r.size) (aA _) bI bJ ((bP aa).trans a3.1) ((cH _ _ _ _ aa).trans a3.2) ((bP I).trans W.1) ((cH _ _ _ _ I).trans W.2);refine bt.mono ?_;rintro p bN ⟨v,len,P,bM,rfl,O⟩;obtain⟨ai,D,aI⟩:=O.out;have Q:cn (12+1) K=cn 13 s:=gC aa;have aH:cn (12+1) j=cn 13 ms[g]:=gC I;rw[Q,aH]at D aI
  have aj:(match l[t]?,ms[g]? with
   | some c,some m=>(mm c (cn 13 s) (cn 13 m)).isSome
   | _,_=>false)=bM:=by
   rw[i,av];exact D.symm
  refine⟨v,len,P,by rw[aj],ai,λU=>?_⟩;rw[aj]at U;rw[U]at D;obtain⟨q,aM⟩:=gn.1 D.symm;obtain⟨bF,x,J,C,bG,az⟩:=aI q aM;cases x with
  | zero=>
   have bW:=(iC az.bnd).1;exact((az.at' 0 (J[0]'(by omega)) (aV _)).2.1).elim
  | succ x=>exact⟨c,ms[g],q,x,J,C,i,av,aM,bG,bF,az⟩
 ·rintro p bN (⟨rfl,O⟩|⟨g,t,j,c,v,len,P,rfl,O⟩)
  ·obtain⟨ai,D⟩:=O.out;refine ak ⟨BH l _ _ 0 λm ao=>tf _ _ l λc i=>?_,rfl,D⟩;obtain⟨bH,ar,rfl⟩:=cg.1 ao;obtain⟨g,F,rfl⟩:=List.mem_iff_getElem.1 ar;obtain⟨t,aS,rfl⟩:=List.mem_iff_getElem.1 i;have:=ai g t F aS;simp only[aV F,aV aS]at this;exact lI.1 (by rw[<-lL,this];rfl)
  ·obtain⟨K,L,A,aE,bf,⟨aa,a9,ab,aC,aD⟩,G,i,aj,bz,bA,aP,E,z,⟨ae,m,q,x,J,C,a7,R,bK,rfl,rfl,a8⟩,an,bx⟩:=O;rw[i]at a7;obtain rfl:=aJ a7;have I:=j0 _ _ _ ab g j m G R;have W:=aZ m (aU R);have bs:cn 13 j=cn 13 m:=gC I;have bC:=aP.size;have a1:=E.size;have a2:=z.size;obtain⟨y1,y2⟩:=aD j (aU G);have bR:=In.offB y2 y1;have bl:ap w bf:=(aP.trans (E.mono bC)).trans (z.mono (by omega));refine am ⟨g,j,c,C,P,rfl,q,x,J,?_,aU i,?_,(bP I).trans W.1,bl.trans (an.below (by omega) λb aN p=>by omega),?_,bR.mono λZ X=>⟨X.1,λp=>?_⟩,(a8.kept an (by omega)).mono (by omega)⟩
   ·have bq:mX (cn 13 s) (cn 13 m) l=some (c,q):=yf _ _ l t c q i bK λax ae V al=>by
      have:=bA ax V;simp only[al,R]at this;exact lI.1 (by rw[<-lL,this];rfl)
    have:=BI l (cn 13 s) (ms.map (cn 13)) 0 g (cn 13 m) (c,q) (by rw[di,R];rfl) bq λbE bY bu aW=>by
     rw[di]at aW;obtain⟨bH,ar,rfl⟩:=cJ.1 aW;refine tf _ _ l λae al=>?_;obtain⟨ax,V,rfl⟩:=List.mem_iff_getElem.1 al;have:=bz bE ax bu V;simp only[aV V,ar]at this;exact lI.1 (by rw[<-lL,this];rfl)
    rw[this,cC]
   ·rw[di,R,bs];rfl
   ·have ba:=((y1.below E).mono a1 |>.below z).mono a2;exact ba.kee an (y2.mono λZ X p=>by omega)
   ·have:=a8.new.1;omega
def uB:List az:=[ae 0,ae 0]
theorem wW(w:ah)(ty:TypeId)(g o c:Nat)(a:Array az)(e:w.heap[g]?=some (.cells a 184 (0,0)))(d:o+2<=a.size):(Builtin.clear_ #[187] ty #[af (some ⟨g,o,none⟩) 1 c]).run Tryz.prog w=.ok (ax #[]) (w.setRow g (a.toList.take o++uB++a.toList.drop (o+2)).toArray):=by
 have b:=qp Tryz.prog g o 184 uB 0 a w e (by simpa [uB]using d) (by simp[uB,Value.oneCell']);have h:(Builtin.zeroCells (Value.agg #[ae 0,ae 0]).cells 1).toList=uB:=by
  simp[Builtin.zeroCells,Value.cells,uB];rfl
 simp only[jD]at b;have f:uB.length=2:=rfl;rw[f]at b;simp[Builtin.clear_,cM underlying187,h,b]
theorem JS(w:ah)(g a L c i:Nat)(f:L<=c)(h:i+1<=L):(Instr.slice 187 (af (some ⟨g,a,none⟩) L c) (some (ae i)) (some (ae ((i:Int)+1))) (some (ae L))).run Tryz.prog w=.ok (af (some ⟨g,a+i*2,none⟩) 1 (L-i)) w:=by
 have b:(i:Int)+1<=(L:Int):=by omega
 have d:¬L=i:=by omega
 have e:(0:Int)<=(i:Int)+1:=by omega
 simp[Instr.slice,cM underlying187,Instr.sliceBounds,Instr.sliceBound,asIntOf,b,d,e,f,go_sem,eT]
theorem Be(w:ah)(g a L c i:Nat)(d:i<=c):(Instr.slice 187 (af (some ⟨g,a,none⟩) L c) none (some (ae i)) none).run Tryz.prog w=.ok (af (some ⟨g,a,none⟩) i c) w:=by
 have b:¬c<i:=by omega
 simp[Instr.slice,cM underlying187,Instr.sliceBounds,Instr.sliceBound,asIntOf,b,go_sem]
theorem DO(w:ah)(g a L c i:Nat)(h:i+1<=L):(Instr.slice 187 (af (some ⟨g,a,none⟩) L c) (some (ae ((i:Int)+1))) none none).run Tryz.prog w=.ok (.slice (some (if c=i+1 then ⟨g,a,none⟩else ⟨g,a+(i+1)*2,none⟩)) (L-(i+1)) (c-(i+1))) w:=by
 have b:(i:Int)+1<=(L:Int):=by omega
 have e:(0:Int)<=(i:Int)+1:=by omega
 have f:((i:Int)+1).toNat=i+1:=by omega
 by_cases d:c=i+1
 ·simp[Instr.slice,cM underlying187,Instr.sliceBounds,Instr.sliceBound,asIntOf,b,d,e,f,go_sem,eT]
 ·simp[Instr.slice,cM underlying187,Instr.sliceBounds,Instr.sliceBound,asIntOf,b,d,e,f,go_sem,eT]
theorem DN(w:ah)(g a m c:Nat)(f:m+1<=c):(Instr.slice 187 (af (some ⟨g,a,none⟩) m c) (some (ae m)) (some (ae ((m:Int)+1))) none).run Tryz.prog w=.ok (af (some ⟨g,a+m*2,none⟩) 1 (c-m)) w:=by
 have b:¬c=m:=by omega
 have d:(m:Int)+1<=(c:Int):=by omega
 have e:(0:Int)<=(m:Int)+1:=by omega
 simp[Instr.slice,cM underlying187,Instr.sliceBounds,Instr.sliceBound,asIntOf,b,d,e,go_sem,eT]
theorem xM{v x':az}{c:Array Oper}{o:Oper}{a:Act}{K:Act->bF}{Q:Exit->Act->bF}{E:Prop}(e:o.guard=none)(s x:Operand)(f:o.op=.call {callee:=.builtin .append,args:= #[s,x],argTypes:= #[187,187]})(h:a.eval s=v)(j:a.eval x=x')(g:(Builtin.append_ #[187,187] o.type #[v,x']).run Tryz.prog w=.ok b w')(d:K (a.put o.dst b) w'):if Region.wanted o (yielded c a.tmps)=true then Oper.wp Tryz.prog o a w K Q else E:=by
 have i:Region.wanted o (yielded c a.tmps)=true:=by simp[Region.wanted,e]
 rw[if_pos i];unfold Oper.wp execOp;simp only[f,resolve,invoke,builtin,jF,jG,jE,jB,bB,dB,h,j,g];exact d
theorem BU(g b a i L:Nat)(w:ah)(d:Addr)(c f:dI)(_hL:L<=a)(_hi:i+1<=L)(_hm:L<=1000000)(k:Hid (∀W,(Instr.slice 187 (af (some ⟨g,b,none⟩) L a) (some (ae i)) (some (ae ((i:Int)+1))) (some (ae L))).run Tryz.prog W=.ok (af (some ⟨g,b+i*2,none⟩) 1 (L-i)) W))(l:Hid (∀W,(Instr.slice 187 (af (some ⟨g,b,none⟩) L a) none (some (ae i)) none).run Tryz.prog W=.ok (af (some ⟨g,b,none⟩) i a) W))(m:Hid (∀W,(Instr.slice 187 (af (some ⟨g,b,none⟩) L a) (some (ae ((i:Int)+1))) none none).run Tryz.prog W=.ok (af (some d) (L-(i+1)) (a-(i+1))) W))(h:Hid (∀ty,(Builtin.append_ #[187,187] ty #[af (some ⟨g,b,none⟩) i a,af (some d) (L-(i+1)) (a-(i+1))]).run Tryz.prog w.drew=.ok (af (some ⟨g,b,none⟩) (L-1:Nat) a) (w.drew.setRow g c.toArray)))(n:Hid (∀W,(Instr.slice 187 (af (some ⟨g,b,none⟩) (L-1:Nat) a) (some (ae (L-1:Nat))) (some (ae L)) none).run Tryz.prog W=.ok (af (some ⟨g,b+(L-1)*2,none⟩) 1 (a-(L-1))) W))(j:Hid (∀ty,(Builtin.clear_ #[187] ty #[af (some ⟨g,b+(L-1)*2,none⟩) 1 (a-(L-1))]).run Tryz.prog (w.drew.setRow g c.toArray)=.ok (ax #[]) ((w.drew.setRow g c.toArray).setRow g f.toArray))):au 155 #[af (some ⟨g,b,none⟩) L a,ae i,ae ((i:Int)+1)] w λe w'=>e=aw (af (some ⟨g,b,none⟩) (L-1:Nat) a)/\w'=(w.drew.setRow g c.toArray).setRow g f.toArray:=by
 have u:=k.out;have v:=l.out;have x:=m.out;have s:=n.out;have r:=j.out;have o:=h.out 187;clear k l m n j h;have t:¬(i:Int)=(i:Int)+1:=by omega
 obtain⟨q,p⟩:∃q:Nat,q=L-1:=⟨_,rfl⟩;rw[<-p]at s o r ⊢;clear p;go_enter func155,ntmps155;go_wp2_with fail;go_region_held3 (λ_=>True) (trivial) ((first|(refine xM rfl _ _ rfl (by simp[Act.eval]) (by simp[Act.eval]) o ?_)));go_wp2_with fail
 go_ret
 exact⟨rfl,rfl⟩
theorem zZ(g a d i:Nat)(vs:List Wd)(c:Array az)(w:ah)(Q:i<vs.length)(u:w.heap[g]?=some (.cells c 184 (0,0)))(B:vs.length<=d)(L:vs.length<=1000000)(R:a+d*2<=c.size)(D:(c.toList.drop a).take (vs.length*2)=bA vs):au 155 #[af (some ⟨g,a,none⟩) vs.length d,ae i,ae ((i:Int)+1)] w λe w'=>e=aw (af (some ⟨g,a,none⟩) (vs.length-1:Nat) d)/\Hid (bH (λb=>b=g) w w'/\w'.heap.size=w.heap.size/\∃p,w'.heap[g]?=some (.cells p 184 (0,0))/\p.size=c.size/\(p.toList.drop a).take ((vs.length-1)*2)=bA (vs.eraseIdx i)):=by
 obtain⟨O,hit,S,x,T⟩:=bT lV;have v:c.toList.length=c.size:=lw;obtain⟨k,n⟩:∃k,k=bA (vs.drop (i+1)):=⟨_,rfl⟩;have t:k.length=(vs.length-(i+1))*2:=by rw[n,cQ,eV]
 have H:∀f l,k[f]?=some l->c.toList[a+(i+1)*2+f]?=some l:=λf l m=>by
  have K:=(bj.1 m).1;have y:(bA vs)[(i+1)*2+f]?=some l:=by
   rw[<-m,n];have:=uz vs (i+1) (vs.length-(i+1)) f (by omega);rw[bI (by simp)]at this;exact this.symm
  rw[<-D,jz,if_pos (by omega),jy]at y;rw[show a+(i+1)*2+f=a+((i+1)*2+f) by omega];exact y
 have M:∀h:ah,h.heap[g]?=some (.cells c 184 (0,0))->∀f l,k[f]?=some l->h.cell? ((if d=i+1 then (⟨g,a,none⟩:Addr)else ⟨g,a+(i+1)*2,none⟩).add f)=some l:=λh I f l m=>by
  have K:=(bj.1 m).1;by_cases G:d=i+1
  ·omega
  ·rw[if_neg G,eT,aj I];exact H f l m
 have o:=λty:TypeId=>pq (P:=Tryz.prog) w.drew 187 ty 184 O underlying187 hit g a i d c u (if d=i+1 then (⟨g,a,none⟩:Addr)else ⟨g,a+(i+1)*2,none⟩) (vs.length-(i+1)) (d-(i+1)) k (by rw[t,x]) (M w.drew u) (by rw[n];exact rI _) (by omega) (by rw[x,t];omega);simp only[x]at o;rw[show i+(vs.length-(i+1))=vs.length-1 by omega]at o;obtain⟨j,r⟩:∃j,j=c.toList.take (a+i*2)++k++c.toList.drop (a+i*2+k.length):=⟨_,rfl⟩;rw[<-r]at o;have s:j.length=c.size:=by
  rw[r];simp only[br,du,eV,v];omega
 have A:(w.drew.setRow g j.toArray).heap[g]?=some (.cells j.toArray 184 (0,0)):=setRow_heap w.drew g c _ _ _ u;have J:=λty:TypeId=>wW (w.drew.setRow g j.toArray) ty g (a+(vs.length-1)*2) (d-(vs.length-1)) j.toArray A (by simp only[fN,s];omega);have z:=λh=>DN h g a (vs.length-1) d (by omega);rw[show (((vs.length-1:Nat):Int)+1)=(vs.length:Int) by omega]at z;refine(BU g a d i vs.length w _ j _ B (by omega) L (λh=>JS h g a vs.length d i B (by omega)) (λh=>Be h g a vs.length d i (by omega)) (λh=>DO h g a vs.length d i (by omega)) o z J).mono ?_;rintro e w' ⟨rfl,rfl⟩;refine⟨rfl,⟨rfl,rfl,rfl,by simp,λb _ C=>(setRow_other _ _ _ _ C).trans (setRow_other _ _ _ _ C)⟩,by simp,_,setRow_heap _ _ _ _ _ _ A,?_,?_⟩
 ·have N:uB.length=2:=rfl;simp only[fN,br,du,eV,s,N];omega
 ·have q:(j.take (a+(vs.length-1)*2)).length=a+(vs.length-1)*2:=by rw[du,s];omega
  rw[lB,p9 (by rw[q];omega),ku (by rw[eV,q];omega),bI (by rw[eV,q];omega)];have E:j.take (a+(vs.length-1)*2)=c.toList.take (a+i*2)++k:=by
   rw[r];exact List.take_left' (by rw[br,du,t,v];omega)
  rw[E,p9 (by rw[du,v];omega),List.drop_take];have F:(c.toList.drop a).take (i*2)=bA (vs.take i):=by
   have:=congrArg (List.take (i*2)) D;rw[List.take_take,Nat.min_eq_left (by omega)]at this;rw[this]
   conv=>lhs;rw[<-iN i vs,qE]
   exact List.take_left' (by rw[cQ,du];omega)
  rw[show a+i*2-a=i*2 by omega,F,n,<-qE,tV]
def PK(y0 y1:Int)(y2:aq)(ya:ay)(yl yc:Nat)(f:Int)(sa:ay)(sl sc:Nat)(pa:ay)(pl pc:Nat)(ka:ay)(kl kc:Nat):az:=.agg #[ae y0,ae y1,ag y2,af ya yl yc,ae f,af sa sl sc,af pa pl pc,af ka kl kc]
def N6:az:=.agg #[ae 0,ae 0,ag ⟨#[]⟩,af none 0 0,ae 0,af none 0 0,af none 0 0,af none 0 0]
def Q3{n:Nat}(d:Int)(rng:Bool)(j:Prop)(T:Nat->Tc->Cl (n+1)->Int->ay->Nat->Nat->ay->Nat->Nat->ay->Nat->Nat->bF)(w:ah)(e:Ending)(w':ah):Prop:=
 (∃g,e=aw (ax #[N6,ae g])/\Hid (ap w w'/\((g=d/\d≠0)\/(g=1/\d=0/\rng=false)\/(g=4/\d=0/\rng=true/\j))))\/
  ∃(k:Nat)(a:Tc)(c:Cl (n+1))(f:Int)(sa:ay)(sl sc:Nat)(pa:ay)(pl pc:Nat)(ka:ay)(kl kc:Nat),e=aw (ax #[PK a.1.1 a.1.2.1 a.1.2.2 a.2.1.1 a.2.2.length a.2.1.2 f sa sl sc pa pl pc ka kl kc,ae 0])/\Hid (d=0/\rng=true/\∃h i,T k a c f sa sl sc pa pl pc ka kl kc h/\ap h i/\bH (λb=>b=w.heap.size) i w')
theorem Df(w:ah)(q:Nat)(v0 v1 v2 v3 a b c d:az):(((((((w.setCell ⟨q,0,none⟩ v0).setCell ⟨q,1,none⟩ v1).setCell ⟨q,2,none⟩ v2).setCell ⟨q,3,none⟩ v3).setCell ⟨q,4,none⟩ a).setCell ⟨q,5,none⟩ b).setCell ⟨q,6,none⟩ c).setCell ⟨q,7,none⟩ d=w.setCells q 0 [v0,v1,v2,v3,a,b,c,d]:=rfl
theorem GH{a d e g:az}(h:w.heap[q]?=some (.cells #[b,c,f,j,a,d,e,g] t))(v0 v1 v2 v3:az):((((w.setCell ⟨q,0,none⟩ v0).setCell ⟨q,1,none⟩ v1).setCell ⟨q,2,none⟩ v2).setCell ⟨q,3,none⟩ v3).heap[q]?=some (.cells #[v0,v1,v2,v3,a,d,e,g] t):=by
 unfold World.setCell;simp[bS,h]
theorem Je(g:w.heap[q]?=some (.cells #[v0,v1,v2,v3,b,c,f,j] t))(a d e:az):(((w.setCell ⟨q,5,none⟩ a).setCell ⟨q,6,none⟩ d).setCell ⟨q,7,none⟩ e).heap[q]?=some (.cells #[v0,v1,v2,v3,b,a,d,e] t):=by
 unfold World.setCell;simp[bS,g]
theorem yv:(Tryz.prog.info? 200).map (·.size)=some 8:=by kernel_rfl
theorem ie(vs:dI)(a:vs.length=8)(b:W.there q 0 8):(loadVar 200 ⟨q,0,none⟩).run Tryz.prog (W.setCells q 0 vs)=.ok (.agg vs.toArray) (W.setCells q 0 vs):=
 run_loadVar_mid (P:=Tryz.prog) (W.setCells q 0 vs) q 0 200 vs _ (World.rangeAt_setCells_same W q 0 vs (by rw[a];exact b)) underlying200 rfl (by rw[a];exact yv)
theorem CE(vs:dI)(a:vs.length=8)(b:W.there q 0 8):(loadVar 200 ⟨q,0,none⟩).run Tryz.prog (W.setCells q 0 vs).drew=.ok (.agg vs.toArray) (W.setCells q 0 vs).drew:=
 run_loadVar_mid (P:=Tryz.prog) (W.setCells q 0 vs).drew q 0 200 vs _ ((World.rangeAt_drew _ _ _ _).2 (World.rangeAt_setCells_same W q 0 vs (by rw[a];exact b))) underlying200 rfl (by rw[a];exact yv)
theorem ls(vs:dI)(a:ap w W)(d:q=w.heap.size):ap w (W.setCells q 0 vs):=a.trans ((eO q vs 0 W).1.below a.size λb c e=>by omega)
theorem Jn(z:Nat)(name:aq)(b1:ay)(L b2:Nat)(self next:Int)(aP:Int)(cH:ay)(cG cI:Nat)(w:ah)(cF:Prop)(K bT:Nat->Tc->Cl (n+1)->Nat->Nat->bF)(T:Nat->Tc->Cl (n+1)->Int->ay->Nat->Nat->ay->Nat->Nat->ay->Nat->Nat->bF)(rng:Bool)(aI:aX)(dp:z<w.heap.size)(cs:Hid (∀b,aI b->b<w.heap.size))(dc:Hid (aI z))(a4:Hid (rng=(decide (1<=self) && decide (self<=99) && decide (1<=next) && decide (next<=92))))(cw:Hid (∀W,ap w W->au 82 #[af b1 L b2] W λe w'=>∃y0 y1 y2 ya yl yc,e=aw (ax #[aB y0 y1 y2 ya yl yc,ae aP])/\Hid (ap W w')))(db:Hid (ai w z 0 (ag name)))(ci:Hid (∀W,aP=0->ap w W->au 154 #[af b1 L b2,ag name] W λe w'=>e=aw (af cH cG cI)/\Hid (ap W w')))(cg:Hid (∀W,aP=0->rng=true->ap w W->au 153 #[aF z,af cH cG cI] W λe w'=>(e=aw (ax #[.agg Hf.toArray,.bool false])/\Hid (ap W w'/\cF))\/∃(i:Nat)(y:Tc)(c:Cl (n+1))(l r:Nat),e=aw (ax #[.agg (D5 i y c (some ⟨l,0,none⟩) 4 r).toArray,.bool true])/\Hid (ap W w'/\W.heap.size<=l/\l<w'.heap.size/\i<=1000000/\K i y c l r w')))(cq:Hid (∀i y c l r a3 W,K i y c l r a3->ap a3 W->∃ma aY aV,(ai W z 7 (af ma aY aV)/\W.frozen? ⟨z,7,none⟩=false)/\Hid (∀bU,ap W bU->au 155 #[af ma aY aV,ae i,ae ((i:Int)+1)] bU λe w'=>∃bm bo bn,e=aw (af bm bo bn)/\Hid (bH aI bU w'/\ai w' z 7 (af ma aY aV)/\w'.frozen? ⟨z,7,none⟩=false/\bT i y c l r (w'.setCell ⟨z,7,none⟩ (af bm bo bn))))))(cl:Hid (∀i y c l r a3 W m,bT i y c l r a3->ap a3 W->a3.heap.size<=m->W.heap[m]?=some (.cells #[af (some ⟨l,0,none⟩) 4 r,ae self,ae next,af none 0 0,af none 0 0,af none 0 0,.bool false] 243)->au 156 #[aF z,QM c,aF m] W λe w'=>∃f,e=aw (ae f)/\Hid (bH (λb=>aI b\/b=m\/b=l) W w'/\(f=0\/f=1->∃v0 v1 v2 c2 sa sl sc pa pl pc ka kl kc,w'.heap[m]?=some (.cells #[v0,v1,v2,af sa sl sc,af pa pl pc,af ka kl kc,c2] 243)/\T i y c f sa sl sc pa pl pc ka kl kc w')/\(¬(f=0\/f=1)->T i y c f none 0 0 none 0 0 none 0 0 w')))):au 125 #[aF z,af b1 L b2,ae self,ae next] w (Q3 aP rng cF T w):=by
 have cy:Hid (∃bp aZ bI,(bp=w.alloc bI/\aZ=w.heap.size/\bI=.cells #[ae 0,ae 0,ag ⟨#[]⟩,af none 0 0,ae 0,af none 0 0,af none 0 0,af none 0 0] 200)/\ap w bp/\bp.heap[aZ]?=some bI/\w.heap.size<bp.heap.size/\Hid (aZ=w.heap.size)):=⟨_,_,_,⟨rfl,rfl,rfl⟩,aW _ _,aL _ _,by simp,rfl⟩;go_enter func125,ntmps125;go_upto_region 1 with fail;obtain⟨bp,j,bI,⟨b0,cS,cR⟩,cO,bZ,cQ,aa⟩:=cy.out;rw[cR]at b0 bZ;rw[<-b0,<-cS];have bu:=av cO;have bM:=av bZ;have cn:=av cQ;clear b0 cS cR cO bZ cQ cy;go_wp2_with fail;refine(cw _ bu).mono ?_;rintro e cc ⟨y0,y1,y2,ya,yl,yc,rfl,br⟩;have bJ:=av (bu.trans (br.mono bu.size));have bN:Hid (cc.heap[j]?=_):=(br.block j (aS.1 bM).1).trans bM;have co:=av (bi cn br.size);clear br bM bu cn cw;have cB:Hid (∃U,U=cc.alloc (.cells #[ae y0,ae y1,ag y2,af ya yl yc] 54)/\ap cc U):=⟨_,rfl,aW _ _⟩;go_upto_region 2 with fail;obtain⟨U,cZ,bG⟩:=cB.out;rw[<-cZ];have Y:=av (bJ.trans (bG.mono bJ.size));have d:Hid (U.heap[j]?=_):=(bG.block j (aS.1 bN).1).trans bN;have cp:=av (bi co bG.size);clear cZ bG cB bN bJ co;by_cases bD:aP=0;rotate_left
 ·have c8:=av bD;have D:=aj d 0;have E:=aj d 1;have F:=aj d 2;have G:=aj d 3;have H:=aj d 4;have I:=aj d 5;have J:=aj d 6;have M:=aj d 7;simp only[dn,dA]at D E F G H I J M;have a0:∀g,U.frozen? ⟨j,g,none⟩=false:=λg=>by simp[World.frozen?,d.out]
  go_wp2_with fail;rw[Df];refine aE (v:=ax #[N6,ae aP]) (results_cell_tmp results125 rfl (ie _ rfl (dR d)) rfl) rfl ?_;exact ak ⟨aP,rfl,ls _ Y aa,ak ⟨rfl,c8⟩⟩
 ·have cj:=av λW=>ci W bD;have ch:=av λW=>cg W bD;clear ci cg;subst bD;cases hr:rng
  ·rw[hr]at a4;have dd:=av a4.out;clear a4;by_cases dq:self<1
   ·have D:=aj d 0;have E:=aj d 1;have F:=aj d 2;have G:=aj d 3;have H:=aj d 4;have I:=aj d 5;have J:=aj d 6;have M:=aj d 7;simp only[dn,dA]at D E F G H I J M;have a0:∀g,U.frozen? ⟨j,g,none⟩=false:=λg=>by simp[World.frozen?,d.out]
    go_wp2_with fail;rw[Df];refine aE (v:=ax #[N6,ae 1]) (results_cell_tmp results125 rfl (ie _ rfl (dR d)) rfl) rfl ?_;exact ak ⟨1,rfl,ls _ Y aa,am (ak ⟨rfl,rfl,by first|rfl|exact hr⟩)⟩
   ·by_cases dr:99<self
    ·have D:=aj d 0;have E:=aj d 1;have F:=aj d 2;have G:=aj d 3;have H:=aj d 4;have I:=aj d 5;have J:=aj d 6;have M:=aj d 7;simp only[dn,dA]at D E F G H I J M;have a0:∀g,U.frozen? ⟨j,g,none⟩=false:=λg=>by simp[World.frozen?,d.out]
     go_wp2_with fail;rw[Df];refine aE (v:=ax #[N6,ae 1]) (results_cell_tmp results125 rfl (ie _ rfl (dR d)) rfl) rfl ?_;exact ak ⟨1,rfl,ls _ Y aa,am (ak ⟨rfl,rfl,by first|rfl|exact hr⟩)⟩
    ·by_cases ds:next<1
     ·have D:=aj d 0;have E:=aj d 1;have F:=aj d 2;have G:=aj d 3;have H:=aj d 4;have I:=aj d 5;have J:=aj d 6;have M:=aj d 7;simp only[dn,dA]at D E F G H I J M;have a0:∀g,U.frozen? ⟨j,g,none⟩=false:=λg=>by simp[World.frozen?,d.out]
      go_wp2_with fail;rw[Df];refine aE (v:=ax #[N6,ae 1]) (results_cell_tmp results125 rfl (ie _ rfl (dR d)) rfl) rfl ?_;exact ak ⟨1,rfl,ls _ Y aa,am (ak ⟨rfl,rfl,by first|rfl|exact hr⟩)⟩
     ·by_cases dt:92<next
      ·have D:=aj d 0;have E:=aj d 1;have F:=aj d 2;have G:=aj d 3;have H:=aj d 4;have I:=aj d 5;have J:=aj d 6;have M:=aj d 7;simp only[dn,dA]at D E F G H I J M;have a0:∀g,U.frozen? ⟨j,g,none⟩=false:=λg=>by simp[World.frozen?,d.out]
       go_wp2_with fail;rw[Df];refine aE (v:=ax #[N6,ae 1]) (results_cell_tmp results125 rfl (ie _ rfl (dR d)) rfl) rfl ?_;exact ak ⟨1,rfl,ls _ Y aa,am (ak ⟨rfl,rfl,by first|rfl|exact hr⟩)⟩
      ·exfalso;have k:=dd.out;have bV:1<=self:=by omega
       have bW:self<=99:=by omega
       have bX:1<=next:=by omega
       have bY:next<=92:=by omega
       simp[bV,bW,bX,bY]at k
  ·rw[hr]at a4;have de:=av a4.out;have ⟨bV,bW,bX,bY⟩:1<=self/\self<=99/\1<=next/\next<=92:=by
    have k:=de.out;simp only[Bool.true_eq,aT,cV]at k;exact⟨k.1.1.1,k.1.1.2,k.1.2,k.2⟩
   have dq:¬self<1:=by omega
   have dr:¬99<self:=by omega
   have ds:¬next<1:=by omega
   have dt:¬92<next:=by omega
   have dm:ai U z 0 (ag name):=(Y.cell (p:=⟨z,0,none⟩) dp).trans db;have c6:=av λW=>ch W hr;clear bV bW bX bY a4 ch;go_wp2_with fail;refine(cj U Y).mono ?_;rintro e dL ⟨rfl,bs⟩;have a8:=av (Y.trans (bs.mono Y.size));have bA:=av ((bs.block j (aS.1 d).1).trans d);have c9:=av (bi cp bs.size);clear bs cj d Y cp dm;go_wp2_with fail;refine(c6 dL a8).mono ?_;rintro e ab (⟨rfl,P⟩|⟨i,y,c,l,r,rfl,P⟩)
   ·have aJ:=av (a8.trans (P.1.mono a8.size));have a1:=av ((P.1.block j (aS.1 bA).1).trans bA);have bb:Hid (∃A a,(A=ab.alloc (.cells #[ae 0,ae 0,ae 0,ag ⟨#[]⟩,af none 0 0,ae 0,ae 0,ag ⟨#[]⟩,af none 0 0,ae 0,ae 0,ag ⟨#[]⟩,af none 0 0,af none 0 0,ae 0,ae 0,ag ⟨#[]⟩,af none 0 0,af none 0 0] 237)/\a=ab.heap.size)/\Hid (ap ab A/\A.heap[a]?=some (.cells #[ae 0,ae 0,ae 0,ag ⟨#[]⟩,af none 0 0,ae 0,ae 0,ag ⟨#[]⟩,af none 0 0,ae 0,ae 0,ag ⟨#[]⟩,af none 0 0,af none 0 0,ae 0,ae 0,ag ⟨#[]⟩,af none 0 0,af none 0 0] 237)/\ab.heap.size<=a)):=⟨_,_,⟨rfl,rfl⟩,aW _ _,aL _ _,aA _⟩;dsimp only
    iterate 13 go_step
    obtain⟨A,a,⟨bk,bh⟩,B⟩:=bb.out;rw[<-bk,<-bh];clear bk bh;have a2:Hid (A.there a 0 19):=dR B.2.1;have aO:=av (aS.1 a1).1;have bc:Hid (∃wf,wf=A.setCells a 0 Hf.toArray.toList/\Hid (bH (λaZ=>aZ=a) A wf)):=⟨_,rfl,(eO a _ 0 A).1⟩;refine wpList_store_mid rfl 237 (.tmp 12) (.tmp 49) rfl a 0 Hf.toArray rfl rfl a2 je F9 ?_;obtain⟨wf,bl,al⟩:=bc.out;rw[<-bl];clear bl a2 bc bb;have c4:=av ((aJ.trans (B.1.mono aJ.size)).trans (al.below (by have:=aJ.size;have:=B.1.size;omega) λb bf e=>by have:=aJ.size;have:=B.2.2;omega));have Z:=av ((al.block j (bi aO B.1.size) (λe=>by have:=aO.out;have:=B.2.2;omega)).trans ((B.1.block j aO).trans a1));have da:=av P.2;clear al a1 aJ P B;have D:=aj Z 0;have E:=aj Z 1;have F:=aj Z 2;have G:=aj Z 3;have H:=aj Z 4;have I:=aj Z 5;have J:=aj Z 6;have M:=aj Z 7;simp only[dn,dA]at D E F G H I J M;have a0:∀g,wf.frozen? ⟨j,g,none⟩=false:=λg=>by simp[World.frozen?,Z.out]
    go_wp2_with fail;rw[Df];refine aE (v:=ax #[N6,ae 4]) (results_cell_tmp results125 rfl (ie _ rfl (dR Z)) rfl) rfl ?_;exact ak ⟨4,rfl,ls _ c4 aa,am (am ⟨rfl,rfl,hr,da⟩)⟩
   ·have aJ:=av (a8.trans (P.1.mono a8.size));have a1:=av ((P.1.block j (aS.1 bA).1).trans bA);have bb:Hid (∃A a,(A=ab.alloc (.cells #[ae 0,ae 0,ae 0,ag ⟨#[]⟩,af none 0 0,ae 0,ae 0,ag ⟨#[]⟩,af none 0 0,ae 0,ae 0,ag ⟨#[]⟩,af none 0 0,af none 0 0,ae 0,ae 0,ag ⟨#[]⟩,af none 0 0,af none 0 0] 237)/\a=ab.heap.size)/\Hid (ap ab A/\A.heap[a]?=some (.cells #[ae 0,ae 0,ae 0,ag ⟨#[]⟩,af none 0 0,ae 0,ae 0,ag ⟨#[]⟩,af none 0 0,ae 0,ae 0,ag ⟨#[]⟩,af none 0 0,af none 0 0,ae 0,ae 0,ag ⟨#[]⟩,af none 0 0,af none 0 0] 237)/\ab.heap.size<=a)):=⟨_,_,⟨rfl,rfl⟩,aW _ _,aL _ _,aA _⟩;dsimp only
    iterate 13 go_step
    obtain⟨A,a,⟨bk,bh⟩,B⟩:=bb.out;rw[<-bk,<-bh];clear bk bh;have a2:Hid (A.there a 0 19):=dR B.2.1;have aO:=av (aS.1 a1).1;have bc:Hid (∃wf,wf=A.setCells a 0 (D5 i y c (some ⟨l,0,none⟩) 4 r).toArray.toList/\Hid (wf.rangeAt a 0 (D5 i y c (some ⟨l,0,none⟩) 4 r)/\bH (λaZ=>aZ=a) A wf)):=⟨_,rfl,World.rangeAt_setCells_same A a 0 _ a2,(eO a _ 0 A).1⟩;refine wpList_store_mid rfl 237 (.tmp 12) (.tmp 49) rfl a 0 (D5 i y c (some ⟨l,0,none⟩) 4 r).toArray rfl rfl a2 je (Ga i y c _ 4 r) ?_;obtain⟨wf,bl,al⟩:=bc.out;rw[<-bl];clear bl a2 bc bb;have bv:Hid (ap ab wf):=B.1.trans (al.2.below B.1.size λb bf e=>by have:=B.2.2;omega);have bw:Hid (∀W:ah,wf.heap[a]?=W.heap[a]? ->W.rangeAt a 0 (D5 i y c (some ⟨l,0,none⟩) 4 r)):=λW dj g v bg=>by
     have:=al.1 g v bg;simp only[World.cell?,<-dj]at this ⊢;exact this
    have bQ:=av B.2.2;have a9:Hid (a<wf.heap.size):=bi (aS.1 B.2.1).1 al.2.size;have c3:ai wf a 0 (ae i):=al.1 0 _ rfl;clear B al;obtain⟨ma,aY,aV,⟨bC,f7⟩,c7⟩:=cq.out i y c l r ab wf P.2.2.2.2 bv;have c5:=av (⟨P.2.1,P.2.2.1⟩:_/\_);have dY:(i:Int)<=1000000:=by have:=P.2.2.2.1;omega
    have dX:(0:Int)<=(i:Int):=by omega
    have d0:IntKind.i64.wrap ((i:Int)+1)=(i:Int)+1:=by
     rw[IntKind.wrap_i64];omega
    clear P cq;go_upto_region 9 with fail;have cd:Hid (ap wf wf.drew):=(aH _ _).drew;have Q:wf.drew.cell? ⟨z,7,none⟩=some (af ma aY aV)/\wf.drew.cell? ⟨a,0,none⟩=some (ae i):=⟨bC,c3⟩;clear bC c3 f7;refine wp_region_noPanic ?_;refine ki (λw'=>ai w' z 7 (af ma aY aV)/\ai w' a 0 (ae i)) 13 (by kernel_rfl) ?_
    try simp only[fN]
    refine bt (i:=0) (v:= ?_) rfl (by kernel_rfl) (by kernel_rfl) (by kernel_rfl) (by kernel_rfl) (λ_ _ _ k=>k) rfl ?_ Q ?_;rotate_left
    ·intro w' s
     try dsimp only at s
     go_simp
     try with_reducible rfl
    try simp only[Act.put]
    refine bt (i:=1) (v:= ?_) rfl (by kernel_rfl) (by kernel_rfl) (by kernel_rfl) (by kernel_rfl) (λ_ _ _ k=>k) rfl ?_ Q ?_;rotate_left
    ·intro w' s
     try dsimp only at s
     go_simp
     try with_reducible rfl
    try simp only[Act.put]
    refine bt (i:=2) (v:= ?_) rfl (by kernel_rfl) (by kernel_rfl) (by kernel_rfl) (by kernel_rfl) (λ_ _ _ k=>k) rfl ?_ Q ?_;rotate_left
    ·intro w' s
     try dsimp only at s
     go_simp
     try with_reducible rfl
    try simp only[Act.put]
    refine bt (i:=3) (v:= ?_) rfl (by kernel_rfl) (by kernel_rfl) (by kernel_rfl) (by kernel_rfl) (λ_ _ _ k=>k) rfl ?_ Q ?_;rotate_left
    ·intro w' s
     try dsimp only at s
     go_simp
     try with_reducible rfl
    try simp only[Act.put]
    refine bt (i:=4) (v:= ?_) rfl (by kernel_rfl) (by kernel_rfl) (by kernel_rfl) (by kernel_rfl) (λ_ _ _ k=>k) rfl ?_ Q ?_;rotate_left
    ·intro w' s
     try dsimp only at s
     go_simp
     try with_reducible rfl
    try simp only[Act.put]
    refine bt (i:=5) (v:= ?_) rfl (by kernel_rfl) (by kernel_rfl) (by kernel_rfl) (by kernel_rfl) (λ_ _ _ k=>k) rfl ?_ Q ?_;rotate_left
    ·intro w' s
     try dsimp only at s
     go_simp
     try with_reducible rfl
    try simp only[Act.put]
    refine bt (i:=6) (v:= ?_) rfl (by kernel_rfl) (by kernel_rfl) (by kernel_rfl) (by kernel_rfl) (λ_ _ _ k=>k) rfl ?_ Q ?_;rotate_left
    ·intro w' s
     try dsimp only at s
     go_simp
     try with_reducible rfl
    try simp only[Act.put]
    refine bt (i:=7) (v:= ?_) rfl (by kernel_rfl) (by kernel_rfl) (by kernel_rfl) (by kernel_rfl) (λ_ _ _ k=>k) rfl ?_ Q ?_;rotate_left
    ·intro w' s
     try dsimp only at s
     go_simp
     try with_reducible rfl
    try simp only[Act.put]
    refine bt (i:=8) (v:= ?_) rfl (by kernel_rfl) (by kernel_rfl) (by kernel_rfl) (by kernel_rfl) (λ_ _ _ k=>k) rfl ?_ Q ?_;rotate_left
    ·intro w' s
     try dsimp only at s
     go_simp
     try with_reducible rfl
    try simp only[Act.put]
    refine bt (i:=9) (v:= ?_) rfl (by kernel_rfl) (by kernel_rfl) (by kernel_rfl) (by kernel_rfl) (λ_ _ _ k=>k) rfl ?_ Q ?_;rotate_left
    ·intro w' s
     try dsimp only at s
     go_simp
     try with_reducible rfl
    try simp only[Act.put]
    refine dx (i:=10) (by kernel_rfl) rfl rfl (λK aK=>?_) (by decide)
    go_simp
    refine(c7 _ cd).mono ?_;rintro e bq ⟨bm,bo,bn,rfl,a5⟩;have bL:Hid (bH aI wf bq):=(aR cd aI).trans a5.1 λ_ _ e=>e;have be:ai bq z 7 (af ma aY aV)/\ai bq a 0 (ae i):=⟨a5.2.1,(bL.cell 0 a9 (λe=>by have:=cs a e;have:=aJ.size;have:=bQ.out;omega)).trans Q.2⟩;have f7:=a5.2.2.1;have cr:=av a5.2.2.2;have cm:Hid (bH aI wf (bq.setCell ⟨z,7,none⟩ (af bm bo bn))):=bL.trans (bO _ _ _ _) λb _ e=>by rw[e];exact dc
    refine aK _ _ (λ_=>be) (λ_=>?_);clear aK K a5 Q
    try simp only[Act.put,cu,dK,dJ]
    refine dx (i:=11) (by kernel_rfl) rfl rfl (λK aK=>?_) (by decide)
    go_simp
    refine aK _ _ (λ_=>be) (λ_=>?_);clear aK K
    try simp only[Act.put,cu,dK,dJ]
    refine bt (i:=12) (v:= ?_) rfl (by kernel_rfl) (by kernel_rfl) (by kernel_rfl) (by kernel_rfl) (λ_ _ _ k=>k) rfl ?_ be ?_;rotate_left
    ·intro w' s
     try dsimp only at s
     go_simp
     try with_reducible rfl
    try simp only[Act.put,cu]
    have bC:=be.1;refine kh (by kernel_rfl) rfl rfl (by kernel_rfl) (λK aK=>?_)
    go_simp
    refine aK _ _ (NoPanic.normal ?_);clear aK K bC f7 be
    try simp only[Act.put,cu,dK,dJ]
    have cA:Hid (∃V,V=bq.setCell ⟨z,7,none⟩ (af bm bo bn)/\Hid (bT i y c l r V/\bH aI wf V)):=⟨_,rfl,cr,cm⟩;obtain⟨V,c0,a6⟩:=cA.out;rw[<-c0];clear c0 cA cr bL cm;have bR:=av a6.2.size;have bx:Hid (∀b,w.heap.size<=b->¬aI b):=λb bf e=>by have:=cs b e;omega
    have cz:=av aJ.size;have bP:=av ((a6.2.block j (bi aO bv.size) (bx j (by rw[aa.out];exact aA _))).trans ((bv.block j aO).trans a1));have bB:=av (a6.2.block a a9 (bx a (by have:=bQ.out;have:=cz.out;omega)));have ce:=av (bw V bB.symm);have dN:ai V a 18 (af (some ⟨l,0,none⟩) 4 r):=ce 18 _ rfl;have cC:Hid (∃u m,(u=V.alloc (.cells #[af (some ⟨l,0,none⟩) 4 r,ae self,ae next,af none 0 0,af none 0 0,af none 0 0,.bool false] 243)/\m=V.heap.size)/\Hid (ap V u/\u.heap[m]?=some (.cells #[af (some ⟨l,0,none⟩) 4 r,ae self,ae next,af none 0 0,af none 0 0,af none 0 0,.bool false] 243)/\V.heap.size<=m)):=⟨_,_,⟨rfl,rfl⟩,aW _ _,aL _ _,aA _⟩;go_upto_region 11 with fail;obtain⟨u,m,⟨c1,aQ⟩,ad⟩:=cC.out;rw[<-c1,<-aQ];clear c1 aQ cC dN;have N:=av (bw u (((ad.1.block a (bi a9 bR)).trans bB).symm));have du:ai u a 5 (ae c.1.1.1.1):=N 5 _ rfl;have dv:ai u a 6 (ae c.1.1.1.2.1):=N 6 _ rfl;have dB:ai u a 7 (ag c.1.1.1.2.2):=N 7 _ rfl;have dC:ai u a 8 (af c.1.1.2.1.1 c.1.1.2.2.length c.1.1.2.1.2):=N 8 _ rfl;have dD:ai u a 9 (ae c.1.2.1.1.1):=N 9 _ rfl;have dE:ai u a 10 (ae c.1.2.1.1.2.1):=N 10 _ rfl;have dF:ai u a 11 (ag c.1.2.1.1.2.2):=N 11 _ rfl;have dG:ai u a 12 (af c.1.2.1.2.1.1 c.1.2.1.2.2.length c.1.2.1.2.1.2):=N 12 _ rfl;have dH:ai u a 13 (af c.2.1.1 c.2.2.length c.2.1.2):=N 13 _ rfl;have dI:ai u a 14 (ae c.1.2.2.1.1):=N 14 _ rfl;have dw:ai u a 15 (ae c.1.2.2.1.2.1):=N 15 _ rfl;have dy:ai u a 16 (ag c.1.2.2.1.2.2):=N 16 _ rfl;have dz:ai u a 17 (af c.1.2.2.2.1.1 c.1.2.2.2.2.length c.1.2.2.2.1.2):=N 17 _ rfl;have ck:=av (cl i y c l r V u m a6.1 ad.1 ad.2.2 ad.2.1);go_wp2_with fail;refine ck.mono ?_;rintro e aM ⟨f,rfl,a7⟩;clear du dv dB dC dD dE dF dG dH dI dw dy dz ck;have dg:=av a7.1.size;have df:=av ad.1.size;have an:Hid (j≠m/\j≠l/\a≠m/\a≠l/\j<u.heap.size/\a<u.heap.size/\w.heap.size<=j/\w.heap.size<=a):=by
     have cM:=aa.out;have cN:=c9.out;have di:=c5.out;have dQ:=bQ.out;have dS:=a9.out;have dT:=bR.out;have dU:=ad.2.2;have dV:=df.out;have dW:=aO.out;have dO:=bv.size;have dP:=cz.out;exact⟨by omega,by omega,by omega,by omega,by omega,by omega,by omega,by omega⟩
    have ct:=av ((a7.1.block j an.2.2.2.2.1 (λe=>by
     rcases e with e|e|e
     ·exact bx j an.2.2.2.2.2.2.1 e
     ·exact an.1 e
     ·exact an.2.1 e)).trans ((ad.1.block j (aS.1 bP).1).trans bP))
    have cf:=av (bw aM (((a7.1.block a an.2.2.2.2.2.1 (λe=>by
     rcases e with e|e|e
     ·exact bx a an.2.2.2.2.2.2.2 e
     ·exact an.2.2.1 e
     ·exact an.2.2.2.1 e)).trans ((ad.1.block a (bi a9 bR)).trans bB)).symm))
    have cx:=av a7.2;clear a7 N ce bP bB a6 ad bw cl;have cD:Hid (∃t h,(t=aM.alloc (.cells #[ae 0,ae 0,ag ⟨#[]⟩,af none 0 0,ae f,af none 0 0,af none 0 0,af none 0 0] 200)/\h=aM.heap.size)/\Hid (ap aM t/\t.heap[h]?=some (.cells #[ae 0,ae 0,ag ⟨#[]⟩,af none 0 0,ae f,af none 0 0,af none 0 0,af none 0 0] 200)/\aM.heap.size<=h)):=⟨_,_,⟨rfl,rfl⟩,aW _ _,aL _ _,aA _⟩;go_upto_region 12 with fail;obtain⟨t,h,⟨cX,cT⟩,x⟩:=cD.out;rw[<-cX,<-cT];clear cX cT cD;have t4:ai t h 4 (ae f):=aj x.2.1 4;have bz:=av ((x.1.block j (aS.1 ct).1).trans ct);have aN:Hid (j≠h/\a≠h/\a<aM.heap.size):=by
     have cM:=an.out;have cN:=dg.out;have di:=x.2.2;exact⟨by omega,by omega,by omega⟩
    by_cases aU:f=0\/f=1
    ·by_cases bE:f=0
     case' pos=>have cP:(f==0)=true:=cU.2 bE
     case' neg=>
      have cP:(f==0)=false:=dM.2 bE;have dk:(f==1)=true:=cU.2 (aU.resolve_left bE)
     all_goals
      have ba:=av bz.out;have O:=av x.2.1;obtain⟨v0,v1,v2,c2,sa,sl,sc,pa,pl,pc,ka,kl,kc,aQ,cW⟩:=cx.out.1 aU;have bS:=av cW;have bK:=av ((x.1.block m (aS.1 aQ).1).trans aQ);have dl:m≠h:=by
       have cM:=(aS.1 aQ).1;have cN:=x.2.2;omega
      have dZ:h≠m:=λe=>dl e.symm;clear aQ cW bz aU bE;have d3:ai t m 3 (af sa sl sc):=aj bK 3;have d4:ai t m 4 (af pa pl pc):=aj bK 4;have d5:ai t m 5 (af ka kl kc):=aj bK 5;have cJ:=aj O 5;have cK:=aj O 6;have cL:=aj O 7;simp only[dn,dA]at cJ cK cL;have dh:∀g,t.frozen? ⟨h,g,none⟩=false:=λg=>by simp[World.frozen?,O.out]
      go_upto_region 13 with fail;go_region_held3 (λW=>W.cell? ⟨m,3,none⟩=some (af sa sl sc)/\W.cell? ⟨m,4,none⟩=some (af pa pl pc)/\W.cell? ⟨m,5,none⟩=some (af ka kl kc)) (first|(go_keep;done)|exact⟨d3,d4,d5⟩) ((fail));have cE:Hid (∃R,R=((t.setCell ⟨h,5,none⟩ (af sa sl sc)).setCell ⟨h,6,none⟩ (af pa pl pc)).setCell ⟨h,7,none⟩ (af ka kl kc)/\Hid (bH (λb=>b=h) t R/\R.heap[h]?=some (.cells #[ae 0,ae 0,ag ⟨#[]⟩,af none 0 0,ae f,af sa sl sc,af pa pl pc,af ka kl kc] 200))):=⟨_,rfl,bH.trans (bH.trans (bO t h 5 _) (bO _ h 6 _) λ_ _ e=>e) (bO _ h 7 _) λ_ _ e=>e,Je O _ _ _⟩;obtain⟨R,cY,X⟩:=cE.out;rw[<-cY];clear cY cE d3 d4 d5 cJ cK cL dh t4;have cv:=av ((X.1.block j (aS.1 ba).1 aN.1).trans ba);go_upto_region 14 with fail;have S:=av (λ(g:Nat)(v:az)(bg:(D5 i y c (some ⟨l,0,none⟩) 4 r)[g]?=some v)=>(X.1.cell (0+g) (bi aN.2.2 x.1.size) aN.2.1).trans ((x.1.cell (p:=⟨a,0+g,none⟩) aN.2.2).trans (cf g v bg)));have b3:ai R a 1 (ae y.1.1):=S 1 _ rfl;have b4:ai R a 2 (ae y.1.2.1):=S 2 _ rfl;have b5:ai R a 3 (ag y.1.2.2):=S 3 _ rfl;have b6:ai R a 4 (af y.2.1.1 y.2.2.length y.2.1.2):=S 4 _ rfl;have ao:=aj X.2 0;have ar:=aj X.2 1;have aC:=aj X.2 2;have aD:=aj X.2 3;simp only[dn,dA]at ao ar aC aD;have cb:∀g,R.frozen? ⟨h,g,none⟩=false:=λg=>by simp[World.frozen?,X.out.2]
      have bd:Hid (∃C,C=(((R.setCell ⟨h,0,none⟩ (ae y.1.1)).setCell ⟨h,1,none⟩ (ae y.1.2.1)).setCell ⟨h,2,none⟩ (ag y.1.2.2)).setCell ⟨h,3,none⟩ (af y.2.1.1 y.2.2.length y.2.1.2)/\Hid (bH (λb=>b=h) R C/\C.heap[h]?=some (.cells #[ae y.1.1,ae y.1.2.1,ag y.1.2.2,af y.2.1.1 y.2.2.length y.2.1.2,ae f,af sa sl sc,af pa pl pc,af ka kl kc] 200))):=⟨_,rfl,ng R h 0 _ _ _ _,GH X.2 _ _ _ _⟩;go_upto_region 15 with fail;obtain⟨C,bj,o⟩:=bd.out;rw[<-bj];clear bj bd b3 b4 b5 b6 ao ar aC aD cb S;have q:=av ((o.1.block j (aS.1 cv).1 aN.1).trans cv);have ao:=aj o.2 0;have ar:=aj o.2 1;have aC:=aj o.2 2;have aD:=aj o.2 3;have b7:=aj o.2 4;have b8:=aj o.2 5;have b9:=aj o.2 6;have ca:=aj o.2 7;have D:=aj q 0;have E:=aj q 1;have F:=aj q 2;have G:=aj q 3;have H:=aj q 4;have I:=aj q 5;have J:=aj q 6;have M:=aj q 7;simp only[dn,dA]at ao ar aC aD b7 b8 b9 ca D E F G H I J M;have a0:∀g,C.frozen? ⟨j,g,none⟩=false:=λg=>by simp[World.frozen?,q.out]
      go_wp2_with fail;rw[Df];refine aE (v:=ax #[PK y.1.1 y.1.2.1 y.1.2.2 y.2.1.1 y.2.2.length y.2.1.2 f sa sl sc pa pl pc ka kl kc,ae 0]) (results_cell_tmp results125 rfl (CE _ rfl (dR q)) rfl) rfl ?_;refine am ⟨i,y,c,f,sa,sl,sc,pa,pl,pc,ka,kl,kc,rfl,rfl,by first|rfl|exact hr,aM,C,bS,((x.1.trans (X.1.below x.1.size λb bf e=>by have:=x.2.2;omega)).trans (o.1.below (aG x.1.size X.1.size) λb bf e=>by have:=x.2.2;omega)),?_⟩;rw[<-aa.out];exact(eO j _ 0 C).1.trans (aR ((aH _ _).drew) _) λ_ _ e=>e
    ·have bS:=av (cx.2 aU);have cP:(f==0)=false:=dM.2 λe=>aU (ak e);have dk:(f==1)=false:=dM.2 λe=>aU (am e);have ba:=av bz.out;have O:=av x.2.1;clear aU t4 bz;have t4:ai t h 4 (ae f):=aj O 4;go_upto_region 14 with fail;clear t4;have S:=av (λg v bg=>(x.1.cell (p:=⟨a,0+g,none⟩) aN.2.2).trans (cf g v bg));have b3:ai t a 1 (ae y.1.1):=S 1 _ rfl;have b4:ai t a 2 (ae y.1.2.1):=S 2 _ rfl;have b5:ai t a 3 (ag y.1.2.2):=S 3 _ rfl;have b6:ai t a 4 (af y.2.1.1 y.2.2.length y.2.1.2):=S 4 _ rfl;have ao:=aj O 0;have ar:=aj O 1;have aC:=aj O 2;have aD:=aj O 3;simp only[dn,dA]at ao ar aC aD;have cb:∀g,t.frozen? ⟨h,g,none⟩=false:=λg=>by simp[World.frozen?,O.out]
     have bd:Hid (∃C,C=(((t.setCell ⟨h,0,none⟩ (ae y.1.1)).setCell ⟨h,1,none⟩ (ae y.1.2.1)).setCell ⟨h,2,none⟩ (ag y.1.2.2)).setCell ⟨h,3,none⟩ (af y.2.1.1 y.2.2.length y.2.1.2)/\Hid (bH (λb=>b=h) t C/\C.heap[h]?=some (.cells #[ae y.1.1,ae y.1.2.1,ag y.1.2.2,af y.2.1.1 y.2.2.length y.2.1.2,ae f,af none 0 0,af none 0 0,af none 0 0] 200))):=⟨_,rfl,ng t h 0 _ _ _ _,GH O _ _ _ _⟩;go_upto_region 15 with fail;obtain⟨C,bj,o⟩:=bd.out;rw[<-bj];clear bj bd b3 b4 b5 b6 ao ar aC aD cb S;have q:=av ((o.1.block j (aS.1 ba).1 aN.1).trans ba);have ao:=aj o.2 0;have ar:=aj o.2 1;have aC:=aj o.2 2;have aD:=aj o.2 3;have b7:=aj o.2 4;have b8:=aj o.2 5;have b9:=aj o.2 6;have ca:=aj o.2 7;have D:=aj q 0;have E:=aj q 1;have F:=aj q 2;have G:=aj q 3;have H:=aj q 4;have I:=aj q 5;have J:=aj q 6;have M:=aj q 7;simp only[dn,dA]at ao ar aC aD b7 b8 b9 ca D E F G H I J M;have a0:∀g,C.frozen? ⟨j,g,none⟩=false:=λg=>by simp[World.frozen?,q.out]
     go_wp2_with fail;rw[Df];refine aE (v:=ax #[PK y.1.1 y.1.2.1 y.1.2.2 y.2.1.1 y.2.2.length y.2.1.2 f none 0 0 none 0 0 none 0 0,ae 0]) (results_cell_tmp results125 rfl (ie _ rfl (dR q)) rfl) rfl ?_;refine am ⟨i,y,c,f,none,0,0,none,0,0,none,0,0,rfl,rfl,by first|rfl|exact hr,aM,C,bS,(x.1.trans (o.1.below x.1.size λb bf e=>by have:=x.2.2;omega)),?_⟩;rw[<-aa.out];exact(eO j _ 0 C).1
theorem KP{c:Type}(b:List.Sublist l r)(f:m->List c):List.Sublist (l.flatMap f) (r.flatMap f):=by
 induction b with
 | slnil=>exact List.Sublist.refl _
 | cons a _ ih=>
  simp only[bM];exact ih.trans (List.sublist_append_right _ _)
 | cons_cons a _ ih=>
  simp only[bM];exact List.Sublist.append (List.Sublist.refl _) ih
theorem N3(b:List.Sublist l r)(f:m->Int)(c:∀a,0<=f a):(l.map f).sum<=(r.map f).sum:=by
 induction b with
 | slnil=>exact km _
 | cons a _ ih=>
  simp only[bB,dk];have:=c a;omega
 | cons_cons a _ ih=>
  simp only[bB,dk];omega
theorem kN.erase{s:Tm (N+1)}{ms:List (Tm (N+1))}(l:kN (N+1) ws nm room (d::vs) (s::ms))(i:Nat):kN (N+1) ws nm room (d::vs.eraseIdx i) (s::ms.eraseIdx i):=by
 obtain⟨f,o,p,v,q,r,t,u⟩:=l;have m:vs.length=ms.length:=by simpa using f.1
 have n:List.Sublist (d::vs.eraseIdx i) (d::vs):=(List.eraseIdx_sublist vs i).cons_cons d;have j:List.Sublist (s::ms.eraseIdx i) (s::ms):=(List.eraseIdx_sublist ms i).cons_cons s;refine⟨⟨by simp[List.length_eraseIdx,m],λc g e b a=>?_⟩,(KP n _).nodup o,λe a=>p e (j.subset a),?_,q,r,t,u⟩
 ·cases c with
  | zero=>
   simp only[dn,iv]at b a;exact f.2 0 g e (by simp[b]) (by simp[a])
  | succ c=>
   simp only[dA,List.getElem?_eraseIdx]at b a;by_cases h:c<i
   ·rw[if_pos h]at b a;exact f.2 (c+1) g e (by simpa using b) (by simpa using a)
   ·rw[if_neg h]at b a;exact f.2 (c+2) g e (by simpa using b) (by simpa using a)
 ·have:=N3 j (sz (N+1)) λk=>(fJ (N+1) k).1;omega
section
variable {base pb:Nat} {name:aq} {room:Int} {N:Nat} {s:Tm (N+1)} {ms:List (Tm (N+1))} {nk:Nat} {M:aX} {w:ah} {ws:List Wd} {nm:bm} {sv:Wd} {vs:List Wd} {ma:ay} {mc:Nat} {Mh:aX}
theorem cW.dropped(a:cW base pb name room (N+1) s ms [] nk M w ws nm sv vs ma mc Mh)(i:Nat){w1:ah}{g:Nat}(x:¬Mh g)(l:bH (λb=>b=g) w w1)(v:kw Mh ma (vs.eraseIdx i) mc w1)(u:M g):cW base pb name room (N+1) s (ms.eraseIdx i) [] nk M (w1.setCell ⟨pb,7,none⟩ (.slice ma (vs.eraseIdx i).length mc)) ws nm sv (vs.eraseIdx i) ma mc Mh/\co M w (w1.setCell ⟨pb,7,none⟩ (.slice ma (vs.eraseIdx i).length mc)):=by
 obtain⟨m,z⟩:=a.box0;have q:ed base (PL pb name sv (af ma vs.length mc)) room ws nm Mh w1:=a.heap.kept (jV l) λb r _ c=>x (by rw[<-c];exact r);have k:=bJ w1 pb 7 (.slice ma (vs.eraseIdx i).length mc);have j:=a.has;simp only[dB,eF]at j;refine⟨⟨q.turn k λB A mp t=>?_,?_,?_,?_,a.names,a.inM,a.mailM⟩,?_⟩
 ·unfold World.setCell;simp[bS,t]
 ·rcases v with d|⟨h,y,n,o,e,f,p⟩
  ·exact ak d
  ·exact am ⟨h,y,n,o,e,(k.block h (aS.1 f).1 λd=>e (by rw[d];exact m)).trans f,p⟩
 ·simp only[dB,eF];exact j.erase i
 ·simp[List.length_eraseIdx,a.len]
 ·refine co.trans ((jV l).mono λb c=>?_) k λb _ c=>?_
  ·rw[c];exact u
  ·rw[c];exact a.inM pb m
theorem cW.delete(a:cW base pb name room (N+1) s ms [] nk M w ws nm sv vs ma mc Mh)(i:Nat)(H:i<ms.length)(G:ms.length<=1000):au 155 #[af ma vs.length mc,ae i,ae ((i:Int)+1)] w λe w'=>e=aw (.slice ma (vs.eraseIdx i).length mc)/\Hid (bH M w w'/\ai w' pb 7 (af ma vs.length mc)/\w'.frozen? ⟨pb,7,none⟩=false/\ cW base pb name room (N+1) s (ms.eraseIdx i) [] nk M (w'.setCell ⟨pb,7,none⟩ (.slice ma (vs.eraseIdx i).length mc)) ws nm sv (vs.eraseIdx i) ma mc Mh/\co M w (w'.setCell ⟨pb,7,none⟩ (.slice ma (vs.eraseIdx i).length mc))):=by
 have k:=a.len;obtain⟨E,m⟩:=a.box0;have f:(vs.eraseIdx i).length=vs.length-1:=by rw[List.length_eraseIdx,if_pos (by omega)]
 rcases a.mail with⟨_,e,_⟩|⟨g,n,u,rfl,d,x,y,z,A,B⟩
 ·rw[e]at k;simp at k;omega
 ·refine(zZ g n mc i vs u w (by omega) x y (by omega) A B).mono ?_;rintro e w' ⟨rfl,o⟩;obtain⟨c,I,v,p,F,q⟩:=o;have j:=a.mailM _ rfl;have l:¬pb=g:=λe=>d (by rw[<-e];exact E);obtain⟨L,J,K,C,_⟩:=a.heap.box;obtain⟨_,_,_,r,t,_⟩:=PL.cells C;have D:=a.dropped i (w1:=w') (g:=g) d c (am ⟨g,n,v,rfl,d,p,by omega,z,by omega,by rw[f];exact q⟩) j;refine⟨by rw[f],c.mono λb _ e=>by rw[e];exact j,(c.cell 7 m l).trans r,?_,D⟩;have h:=t 7;unfold World.frozen? at h ⊢;rw[c.block pb m l];exact h
end
def rB(n:Nat)(room:Int)(l:List (Bh (n+1)))(name:aq)(self next:Int)(s:Tc)(ms:List Tc):Int:=
 if oJ n l≠0 then oJ n l else if (decide (1<=self) && decide (self<=99) && decide (1<=next) && decide (next<=92))=false then 1 else if (ov room l name self next s ms).isSome then 0 else 4
def mH(c:Nat)(sends:List (Int×Tc))(spawns:List (Int×aq×Tc))(links:List Int)(sa:ay)(sl sc:Nat)(pa:ay)(pl pc:Nat)(ka:ay)(kl kc:Nat)(P:aX)(w:ah):Prop:=
 ∃(f:Nat)(d:List (Int×Tm (f+1)))(e:List (Int×aq×Tm (f+1))),(d.length=sl/\e.length=pl/\links.length=kl)/\w.ownsRow c 250 5 (af sa sl sc) sl (d.flatMap λa=>Ox a.1 a.2)/\w.ownsRow c 247 6 (af pa pl pc) pl (e.flatMap λa=>Py a.1 a.2.1 a.2.2)/\w.ownsRow c 3 1 (af ka kl kc) kl (links.map λg=>ae g)/\
  d.map (λa=>(a.1,cn _ a.2))=sends/\e.map (λa=>(a.1,a.2.1,cn _ a.2.2))=spawns/\(∀a∈d,bL _ a.2=0/\In w.heap.size w _ a.2/\cG (λb=>c<=b/\P b) _ a.2)/\(∀a∈e,bL _ a.2.2=0/\In w.heap.size w _ a.2.2/\cG (λb=>c<=b/\P b) _ a.2.2)/\∀b,((Value.slice sa sl sc).ownBlock=some b\/(Value.slice pa pl pc).ownBlock=some b\/(Value.slice ka kl kc).ownBlock=some b)->c<=b/\P b
theorem mH.kept{f:Nat}{sends:List (Int×Tc)}{spawns:List (Int×aq×Tc)}{links:List Int}{sa:ay}{sl sc:Nat}{pa:ay}{pl pc:Nat}{ka:ay}{kl kc:Nat}{P:aX}{w w':ah}(v:mH f sends spawns links sa sl sc pa pl pc ka kl kc P w){S:aX}(r:bH S w w')(o:∀q,f<=q->P q->q<w.heap.size->¬S q):mH f sends spawns links sa sl sc pa pl pc ka kl kc P w':=by
 obtain⟨u,H,I,x,y,z,A,B,C,g,h,i⟩:=v;have p:∀{e:Nat}{m:Tm e},In w.heap.size w e m->cG (λq=>f<=q/\P q) e m->In w'.heap.size w' e m:=λF G=>F.kee (r.mono (T:=λb=>S b/\b<w.heap.size) λb D q=>⟨q,D⟩) (G.mono λq c (a:S q/\q<w.heap.size)=>o q c.1 c.2 a.2 a.1);have l:∀{k:TypeId}{a e:Nat}{j:az}{n:dI},w.ownsRow f k a j e n->(∀q,j.ownBlock=some q->f<=q/\P q)->w'.ownsRow f k a j e n:=λ{k a e j n} s t=>bD s r λq c=>by
  obtain⟨J,E⟩:=eK s q c;exact o q (t q c).1 (t q c).2 (aS.1 E).1
 exact⟨u,H,I,x,l y λq c=>i q (ak c),l z λq c=>i q (am (ak c)),l A λq c=>i q (am (am c)),B,C,λa d=>⟨(g a d).1,p (g a d).2.1 (g a d).2.2,(g a d).2.2⟩,λa d=>⟨(h a d).1,p (h a d).2.1 (h a d).2.2,(h a d).2.2⟩,i⟩
theorem mH.none(c:Nat)(P:aX)(w:ah):mH c [] [] [] none 0 0 none 0 0 none 0 0 P w:=
 ⟨0,[],[],⟨rfl,rfl,rfl⟩,eX _ _ _ _,eX _ _ _ _,eX _ _ _ _,rfl,rfl,λd b=>(by cases b),λd b=>(by cases b),λe a=>by
  rcases a with a|a|a<;>cases a⟩
def QG(r q:Nat)(name:aq)(room:Int)(s:Tc)(ms:List Tc)(o:Nat)(M:aX)(n:Nat)(l:List (Bh (n+1)))(self next:Int)(w:ah)(e:Ending)(w':ah):Prop:=
 (∃g,e=aw (ax #[N6,ae g])/\Hid (g≠0/\g=rB n room l name self next (cn 13 s) (ms.map (cn 13))/\ap w w'))\/
  ∃(a:Tc)(f:Int)(sa:ay)(sl sc:Nat)(pa:ay)(pl pc:Nat)(ka:ay)(kl kc:Nat),e=aw (ax #[PK a.1.1 a.1.2.1 a.1.2.2 a.2.1.1 a.2.2.length a.2.1.2 f sa sl sc pa pl pc ka kl kc,ae 0])/\Hid (∃b h d,rB n room l name self next (cn 13 s) (ms.map (cn 13))=0/\ov room l name self next (cn 13 s) (ms.map (cn 13))=some b/\f=b.fate/\cn 13 a=b.message/\bL 13 a=0/\In w'.heap.size w' 13 a/\cG (λc=>w.heap.size<=c/\c<d) 13 a/\co M w w'/\w.heap.size<d/\
   (∃i v p t u k m j,cW r q name room 13 i (ms.eraseIdx h) [] (o+402) (λc=>M c\/d<=c) w' v p t u k m j/\cn 13 i=b.state/\(ms.eraseIdx h).map (cn 13)=b.mail)/\mH (w.heap.size+1) b.sends b.spawns b.links sa sl sc pa pl pc ka kl kc (λ_=>True) w')
theorem Pa(room self next:Int)(s m:Tc)(ms:List Tc)(c:Cl (n+1))(b:List Tc):fI room self next s m ms c b={fI room self next s s ms c b with message:=m}:=by
 unfold fI;cases qT self c.2.2 ⟨b,next,[],[],[],false⟩with
 | none=>rfl
 | some e=>
  cases d:tQ e.b self (n+1) c.1.2.2 with
  | none=>simp only[d]
  | some t=>
   simp only[d];by_cases a:(ms.map (sz 13)).sum+sz 13 t<=room
   ·simp only[if_pos a]
   ·simp only[if_neg a]
theorem Ig{next:Int}{m:Tc}{c:Cl (n+1)}{b:List Tc}(a:¬((fI room self next s m ms c b).fate=0\/(fI room self next s m ms c b).fate=1)):(fI room self next s m ms c b).sends=[]/\(fI room self next s m ms c b).spawns=[]/\(fI room self next s m ms c b).links=[]:=by
 unfold fI at a ⊢;cases hd:qT self c.2.2 ⟨b,next,[],[],[],false⟩with
 | none=>exact⟨rfl,rfl,rfl⟩
 | some d=>
  rw[hd]at a;cases f:tQ d.b self (n+1) c.1.2.2 with
  | none=>simp[f]
  | some t=>
   simp only[f]at a ⊢;by_cases e:(ms.map (sz 13)).sum+sz 13 t<=room
   ·simp only[if_pos e]at a;cases hst:d.stops<;>simp[hst]at a
   ·simp[if_neg e]
theorem If(room self next:Int)(s m:Tc)(ms:List Tc)(c:Cl (n+1))(b:List Tc):(fI room self next s m ms c b).mail=ms:=by
 unfold fI;cases qT self c.2.2 ⟨b,next,[],[],[],false⟩with
 | none=>rfl
 | some e=>
  cases d:tQ e.b self (n+1) c.1.2.2 with
  | none=>simp only[d]
  | some t=>
   simp only[d];by_cases a:(ms.map (sz 13)).sum+sz 13 t<=room
   ·simp only[if_pos a]
   ·simp only[if_neg a]
theorem rM.keptS{l:List (Tm D)}(b:rM D l B a w e h)(c:bH S w w')(g:∀q,a<=q->¬S q):rM D l B a w' e h:=by
 obtain⟨d,f⟩:=b.new;refine⟨b.bnd,b.tells,b.cap,⟨d,bi f c.size⟩,λn t m=>?_,λo=>?_⟩
 ·obtain⟨p,r,j⟩:=b.at' n t m;exact⟨p.kee c f (g e d),r.kee c (j.mono λs k=>g s k.1),j⟩
 ·have i:=b.free o;unfold World.frozen? at i ⊢;rw[c.block e f (g e d)];exact i
theorem yh{B:Nat}{p:ay}{l:List (Bh (n+1))}(j:iX (n+1) B w p l)(name:aq):∃e d g,MX (n+1) (gG (n+1) name l)=af e d g/\(gL name l).length=d/\Lay B w 13 (fH (n+1)) (iR (n+1) B w) e (gL name l)/\(gL name l=[]\/∃b∈l,gL name l=b.2.2):=by
 have k:∀(l:List (Bh (n+1))) b,gG (n+1) name l=some b->b∈l:=by
  intro l
  induction l with
  | nil=>intro b a;cases a
  | cons q l ih=>
   intro b a;simp only[gG]at a;split at a
   ·obtain rfl:=aJ a;simp
   ·exact cd _ (ih b a)
 unfold gL;cases hb:gG (n+1) name l with
 | none=>exact⟨none,0,0,rfl,rfl,ak rfl,ak rfl⟩
 | some b=>
  have c:=k l b hb;refine⟨_,_,_,rfl,rfl,?_,am ⟨b,c,rfl⟩⟩;rcases j with f|⟨s,o,f,r,h⟩
  ·rw[f]at c;cases c
  ·obtain⟨m,i⟩:=dj c;exact((h m b i).2).2.2
theorem cW.step(X:cW a e name room 13 s ms [] h M w ws nm d vs ma u Mh)(l:List (Bh (n+1)))(ag:ay)(R B:Nat)(a8:iX (n+1) B w ag l)(U:B<=w.heap.size)(b8:l.length<=R)(bo:R<=maxLen)(bP:lm (n+1) l=true->(aI (n+6) (cY n l)).length<=2097152)(V:∀b,M b->b<w.heap.size)(bQ:∀W,bH M w W->iX (n+1) B W ag l)(cA:h<=92000)(cv:ms.length<=999)(cw:a<=w.heap.size)(self next:Int):au 125 #[aF e,af ag l.length R,ae self,ae next] w (QG a e name room s ms h M n l self next w):=by
 obtain⟨cc,cd⟩:=X.box0 (N:=12);obtain⟨cL,cD,cH,bR,_⟩:=X.heap.box;obtain⟨bD,_,_,ct,cu,_⟩:=PL.cells bR;obtain⟨a0,bF,bg,bZ,bX,b0,bY⟩:=yh a8 name;have cz:R<=9223372036854775807:=by unfold maxLen at bo;omega
 have bl:oJ n l=0->(∀c∈gL name l,qJ c)/\(gL name l).length<=6:=λy=>by
  obtain⟨_,bp⟩:=GG y;rcases bY with i|⟨b,z,i⟩
  ·rw[i];exact⟨λc bT=>(by cases bT),aN _⟩
  ·rw[i];exact⟨(bp b z).2,(bp b z).1⟩
 have a6:∀(k:Nat)(t:Tc),(ms.map (cn 13))[k]?=some t->k<ms.length:=λk t ax=>by
  have:=(bj.1 ax).1;simpa using this
 refine(Jn e name ag l.length R self next (oJ n l) a0 bF bg w (td (gL name l) (cn 13 s) (ms.map (cn 13)) 0=none)
  (λk p c C K A=>∃q G J,ap w A/\(1<=self/\self<=99/\1<=next/\next<=92)/\oJ n l=0/\td (gL name l) (cn 13 s) (ms.map (cn 13)) 0=some (k,c,q)/\c∈gL name l/\(ms.map (cn 13))[k]?=some (cn 13 p)/\bL 13 p=0/\In A.heap.size A 13 p/\cG (λg=>w.heap.size<g/\g≠C) 13 p/\rM (G+1) J q (w.heap.size+1) A C K)
  (λk p c C K A=>∃q G J aU aK aM aP aD aH av,cW a e name room 13 s (ms.eraseIdx k) [] h M A aU aK aM aP aD aH av/\co M w A/\(1<=self/\self<=99/\1<=next/\next<=92)/\oJ n l=0/\td (gL name l) (cn 13 s) (ms.map (cn 13)) 0=some (k,c,q)/\c∈gL name l/\(ms.map (cn 13))[k]?=some (cn 13 p)/\bL 13 p=0/\In A.heap.size A 13 p/\cG (λg=>w.heap.size<g/\g≠C) 13 p/\rM (G+1) J q (w.heap.size+1) A C K)
  (λk p c f sa sl sc pa pl pc ka kl kc T=>∃q ai,td (gL name l) (cn 13 s) (ms.map (cn 13)) 0=some (k,c,q)/\(ms.map (cn 13))[k]?=some (cn 13 p)/\bL 13 p=0/\In T.heap.size T 13 p/\cG (λg=>w.heap.size<g/\g<ai) 13 p/\w.heap.size<ai/\co M w T/\f=(fI room self next (cn 13 s) (cn 13 s) ((ms.eraseIdx k).map (cn 13)) c q).fate/\
   (∃S aU aK aM aP aD aH av,cW a e name room 13 S (ms.eraseIdx k) [] (h+402) (λg=>M g\/ai<=g) T aU aK aM aP aD aH av/\cn 13 S=(fI room self next (cn 13 s) (cn 13 s) ((ms.eraseIdx k).map (cn 13)) c q).state)/\
   mH (w.heap.size+1) (fI room self next (cn 13 s) (cn 13 s) ((ms.eraseIdx k).map (cn 13)) c q).sends (fI room self next (cn 13 s) (cn 13 s) ((ms.eraseIdx k).map (cn 13)) c q).spawns (fI room self next (cn 13 s) (cn 13 s) ((ms.eraseIdx k).map (cn 13)) c q).links sa sl sc pa pl pc ka kl kc (λ_=>True) T)
  _ M cd V (X.inM e cc) rfl ?_ bD ?_ ?_ ?_ ?_).mono ?_
 ·intro W r;refine(Mi n l ag R b8 bo B W (a8.below (r.mono U)) (aG U r.size) bP).mono ?_;rintro i Q ⟨p,rfl,D⟩;exact⟨_,_,_,_,_,_,rfl,D.1⟩
 ·intro W _ r;refine(vF (n+1) name l ag R l.length B W rfl (by omega) (aG U r.size) (a8.below (r.mono U))).mono ?_;rintro i Q ⟨rfl,z⟩;exact⟨by rw[bZ],z⟩
 ·intro W y E r;simp only[aT,cV]at E;obtain⟨a9,b9⟩:=bl y;have bk:=D6 (X.later (N:=12) r) (gL name l) a0 bg B ((dc (eN (n+1)) 13 (fH (n+1)) a0).below (r.mono U) b0) (aG U r.size) a9 (by omega) (by omega) (by omega);rw[bX]at bk;refine bk.mono ?_;rintro i Q (⟨bN,rfl,D⟩|⟨k,p,c,C,K,rfl,D⟩)
  ·exact ak ⟨rfl,D,bN⟩
  ·obtain⟨q,G,J,L,O,F,P,bs,aa,ab,I⟩:=D.out;have ci:=r.size;have ao:=I.new;have a5:=a6 k _ F;exact am ⟨k,p,c,C,K,rfl,bs,by omega,ao.2,by omega,q,G,J,r.trans (bs.mono ci),⟨E.1.1.1,E.1.1.2,E.1.2,E.2⟩,y,L,O,F,P,aa,ab.mono λg m=>⟨by omega,m.2⟩,I.mono (by omega)⟩
 ·rintro k p c C K A W ⟨q,G,J,a1,Y,y,L,O,F,P,aa,ab,I⟩ r;have a2:=a1.trans (r.mono a1.size);have a5:=a6 k _ F;obtain⟨cM,cE,cI,bS,_⟩:=(X.later (N:=12) a2).heap.box;obtain⟨_,_,_,bE,bG,_⟩:=PL.cells bS;refine⟨ma,vs.length,u,⟨bE,bG 7⟩,λbB aA=>?_⟩;have bh:=a2.trans (aA.mono a2.size);refine((X.later (N:=12) bh).delete (N:=12) k a5 (by omega)).mono ?_;rintro i Q ⟨rfl,D⟩;obtain⟨ck,cl,cm,cp,bc⟩:=D.out;have cf:=a1.size;refine⟨ma,_,u,rfl,ck,cl,cm,q,G,J,ws,nm,d,_,ma,u,Mh,cp,(bC bh M).trans bc λ_ _ i=>i,Y,y,L,O,F,P,?_,ab,?_⟩
  ·exact(((aa.below r).mono r.size |>.below aA).mono aA.size).kee (iF bc) (ab.mono λg m j=>by have:=V g j;omega)
  ·exact((I.keptS (aR r (λ_=>False)) (λ_ _ i=>i)).keptS (aR aA (λ_=>False)) (λ_ _ i=>i)).keptS (iF bc) λg m j=>by have:=V g j;omega
 ·rintro k p c C K A W aj ⟨q,G,J,aU,aK,aM,aP,aD,aH,av,cb,a7,Y,y,L,O,F,P,aa,ab,I⟩ r cx bi;obtain⟨a9,b9⟩:=bl y;have ad:=I.keptS (aR r (λ_=>False)) (λ_ _ i=>i);have ao:=I.new;have cf:=a7.size;have ch:=r.size;have a5:=a6 k _ F;have cy:aj<W.heap.size:=(aS.1 bi).1;have b2:eL (w.heap.size+1) aj self n G 0 next ⟨q,next,[],[],[],false⟩ W J C K [] [] (af none 0 0) (af none 0 0) (af none 0 0):=by
   refine⟨bi,⟨by omega,by omega,ao.1,ad.new.2,by omega⟩,ad.bnd,ad.tells,λZ j x=>⟨(ad.at' Z j x).1,(ad.at' Z j x).2.1,(In.offB (I.at' Z j x).2.2 (I.at' Z j x).2.1).mono λg m=>⟨m.1.1,λv=>?_⟩⟩,ad.free,eX _ _ _ _,eX _ _ _ _,eX _ _ _ _,rfl,rfl,λj x=>(by cases x),λj x=>(by cases x),⟨⟨λi=>(by cases i),λi=>(by cases i),λi=>(by cases i)⟩,⟨λi=>(by cases i),λi=>(by cases i),λi=>(by cases i)⟩,λg=>⟨λi=>(by cases i),λi=>(by cases i)⟩⟩,⟨aN _,aN _,aN _,by simp,Y.2.2.1,Y.2.2.2⟩⟩;rcases v with v|v|v|v|v
   ·have:=m.2;omega
   ·exact m.1.2 v
   ·cases v
   ·cases v
   ·cases v
  have b7:bH M w W:=(iF a7).trans (aR r (λ_=>False)) λ_ _ i=>i.elim;have bW:iR (n+1) B W c:=by
   obtain⟨_,_,_,_,_,b1,_⟩:=yh (bQ W b7) name;rcases b1 with i|⟨g,o,i,m,bV⟩
   ·rw[i]at O;cases O
   ·obtain⟨Z,b6⟩:=dj O;exact(bV Z c b6).2
  have bU:iR (n+1) (w.heap.size+1) W c:=(eN (n+1)).mono (by omega) bW;have b3:(ms.eraseIdx k).length<=999:=by
   have:=List.length_eraseIdx_le ms k;omega
  have a4:=Ew (b:=q) (cb.later (N:=12) r) b2 rfl c bU (a9 c O) ⟨Y.1,Y.2.1⟩ (λg j=>by have:=V g j;omega) (by omega) (by omega) b3;have b4:au 156 #[aF e,QM c,aF aj] W _:=a4;refine b4.mono ?_;rintro i Q ⟨f,rfl,aY,aZ,⟨S,aV,aL,aO,aQ,aE,aJ,aw,be,bf⟩,bA⟩;have a3:∀g,mq aj C (af none 0 0) (af none 0 0) (af none 0 0) g->g=aj\/g=C:=λg v=>by
   rcases v with v|v|v|v|v
   ·exact ak v
   ·exact am v
   ·cases v
   ·cases v
   ·cases v
  have al:co M w Q:=(a7.trans (bC r M) λ_ _ i=>i).trans (jV aZ) λg m j=>by
   rcases j with j|j
   ·exact j
   ·rcases a3 g j with j|j<;>omega
  have ar:=In.offB ab aa
  have aW:In Q.heap.size Q 13 p:=((aa.below r).mono ch).kee aZ (ar.mono λg m j=>by
   rcases j with j|j
   ·have:=V g j;omega
   ·rcases a3 g j with j|j
    ·have:=m.2;omega
    ·exact m.1.2 j)
  have bv:cG (λg=>w.heap.size<g/\g<W.heap.size) 13 p:=ar.mono λg m=>⟨m.1.1,by have:=m.2;omega⟩;refine⟨f,rfl,aZ.mono λg _ j=>?_,λaz=>?_,λaz=>?_⟩
  ·rcases j with j|j
   ·exact ak j
   ·exact am (a3 g j)
  ·obtain⟨bI,cC,cs,cr,bt,bu,cK,cJ,cF,H,bw,bx,bd,_⟩:=bA az;have br:=H.sRow;have bq:=H.pRow;have bn:=H.lRow;have b5:=H.high;have bb:=H.sIn;have ba:=H.pIn;obtain⟨sa,sc,rfl⟩:=nD br;obtain⟨pa,pc,rfl⟩:=nD bq;obtain⟨ka,kc,rfl⟩:=nD bn;refine⟨_,_,_,_,sa,bt.length,sc,pa,bu.length,pc,ka,bI.links.length,kc,H.box,q,W.heap.size,L,F,P,aW,bv,by omega,al,aY,⟨S,aV,aL,aO,aQ,aE,aJ,aw,be,bf⟩,?_⟩;refine⟨G+1+n,bt,bu,⟨rfl,rfl,by rw[<-bd]⟩,br,bq,by rw[<-bd];exact bn,H.sIs.trans bw,H.pIs.trans bx,λj x=>⟨(bb j x).1,(bb j x).2.1,(bb j x).2.2.mono λg m=>⟨m.1,trivial⟩⟩,λj x=>⟨(ba j x).1,(ba j x).2.1,(ba j x).2.2.mono λg m=>⟨m.1,trivial⟩⟩,λg m=>⟨b5 g (am (am m)),trivial⟩⟩
  ·rw[aY]at az;obtain⟨bJ,bK,bM⟩:=Ig az;refine⟨q,W.heap.size,L,F,P,aW,bv,by omega,al,aY,⟨S,aV,aL,aO,aQ,aE,aJ,aw,be,bf⟩,?_⟩;rw[bJ,bK,bM];exact mH.none _ _ _
 ·rintro i Q (⟨cq,rfl,D⟩|⟨k,p,c,f,sa,sl,sc,pa,pl,pc,ka,kl,kc,rfl,D⟩)
  ·obtain⟨z,cj⟩:=D.out;refine ak ⟨cq,rfl,?_⟩;rcases cj with⟨rfl,ax⟩|⟨rfl,y,E⟩|⟨rfl,y,E,ao⟩
   ·exact⟨ax,by unfold rB;rw[if_pos ax],z⟩
   ·exact⟨by decide,by unfold rB;rw[if_neg (λg=>g y),if_pos E],z⟩
   ·refine⟨by decide,?_,z⟩;have aC:ov room l name self next (cn 13 s) (ms.map (cn 13))=none:=by
     unfold ov;rw[ao];rfl
    unfold rB;rw[if_neg (λg=>g y),if_neg (by rw[E];decide),aC];rfl
  ·obtain⟨y,E,T,bB,⟨q,ai,L,F,P,aW,ar,bO,al,a4,⟨S,aV,aL,aO,aQ,aE,aJ,aw,P1,bz⟩,ce⟩,an,aB⟩:=D;have cB:=al.size;have cg:=an.size;have ca:(ms.map (cn 13)).eraseIdx k=(ms.eraseIdx k).map (cn 13):=by simp[tV,List.map_take,List.map_drop]
   have aC:ov room l name self next (cn 13 s) (ms.map (cn 13))=some {fI room self next (cn 13 s) (cn 13 s) ((ms.eraseIdx k).map (cn 13)) c q with message:=cn 13 p}:=by
    unfold ov;rw[L];simp only[dU];rw[F,ca,lK,Pa]
   refine am ⟨p,f,sa,sl,sc,pa,pl,pc,ka,kl,kc,rfl,_,k,ai,?_,aC,a4,rfl,P,((aW.below an).mono cg).kee aB (ar.mono λg m i=>by omega),ar.mono λg m=>⟨by omega,m.2⟩,(al.trans (bC an M) λ_ _ i=>i).trans (jV aB) λb z i=>by omega,bO,⟨S,aV,aL,aO,aQ,aE,aJ,aw,(P1.later (N:=12) an).kept (N:=12) (jV aB) λb z _ i=>?_,bz,(If ..).symm⟩,(ce.kept (aR an (λ_=>False)) λ_ _ _ _ i=>i).kept aB λg m _ _ i=>by omega⟩
   ·unfold rB;rw[if_neg (λg=>g y),if_neg (by rw[E];decide),aC];rfl
   ·rcases z with z|z
    ·have:=V b z;omega
    ·omega
theorem Hg(n:Nat)(x:Tm n):bL n x=0\/bL n x=2\/bL n x=5:=by
 rw[<-gO];unfold xO;split
 ·split
  ·exact am (ak rfl)
  ·exact ak rfl
 ·exact am (am rfl)
section
variable {base pb:Nat} {name:aq} {room:Int} {N n:Nat} {s:Tm (N+1)} {ms:List (Tm (N+1))} {nk:Nat} {M:aX} {w:ah} {ws:List Wd} {nm:bm} {sv:Wd} {vs:List Wd} {ma:ay} {mc:Nat} {Mh:aX}
theorem cW.putBad(k:cW base pb name room (N+1) s ms [] nk M w ws nm sv vs ma mc Mh)(x:Tm (n+1))(B:In w.heap.size w (n+1) x)(z:cG (λb=>¬M b) (n+1) x)(u:(aI (n+1) x).length<=2097152)(G:nk<=94000)(F:base<=w.heap.size)(o:bL (n+1) x≠0):au 185 #[aF pb,dG (n+1) x] w λe w'=>e=aw (ax #[.agg #[ae 0,ae 0],ae (bL (n+1) x)])/\ap w w':=by
 obtain⟨_,_,_,I,J,C,D,_⟩:=k.front;have H:=k.names;have l:jo (n+1) x room ws=bL (n+1) x:=by
  unfold jo;rw[if_pos o]
 have t:jo (n+1) x room ws≠6:=by
  rw[l];rcases Hg (n+1) x with e|e|e<;>rw[e]<;>decide
 have p:∀{h:Wd}{c:Int}{f i:ah},zK (n+1) x base (PL pb name sv (af ma vs.length mc)) room ws nm Mh h c f i->c≠0:=λg=>by
  rw[g.1,l];exact o
 refine(CZ pb x.1.1 x.1.2.1 x.1.2.2 x.2.1.1 x.2.2.length x.2.1.2 w (λh c f i=>zK (n+1) x base (PL pb name sv (af ma vs.length mc)) room ws nm Mh h c f i) (λ_ _=>False) (λ_ _ _ _=>False) ?_ ?_ ?_).mono ?_
 ·intro f d;have m:=d.size;have q:=k.later d;refine(we (n+1) x base (PL pb name sv (af ma vs.length mc)) room ws nm Mh f q.heap ((B.below d).mono m) (z.mono λb d g=>d (k.inM b g)) u (by omega) C D (by omega) (by omega)).mono ?_;intro e i g;obtain⟨h,c,rfl,a⟩:=AJ g;refine⟨h,c,rfl,?_,a⟩;have j:=(a.2.1 (p a)).2;exact⟨j.size,λb _ _ r=>j.block b r⟩
 ·intro K f i L _ a _ _;exact absurd a.1.symm t
 ·intro _ _ _ a;exact a.elim
 ·rintro e w' ⟨h,c,rfl,⟨_,f,i,d,a,y⟩|⟨_,_,_,_,_,_,_,_,_,_,_,a,_⟩⟩
  ·obtain⟨A,j⟩:=a.2.1 (p a);have m:=d.size;have v:c=bL (n+1) x:=a.1.trans l;refine⟨by rw[v,A],(d.trans (j.mono m)).trans ((iF y).below (by have:=j.size;omega) λb E g=>by omega)⟩
  ·exact a.elim
theorem cW.deliverBad(f:cW base pb name room (N+1) s ms [] nk M w ws nm sv vs ma mc Mh)(x:Tm (n+1))(v:In w.heap.size w (n+1) x)(t:cG (λb=>¬M b) (n+1) x)(p:(aI (n+1) x).length<=2097152)(r:nk<=94000)(q:base<=w.heap.size)(k:bL (n+1) x≠0):au 162 #[aF pb,dG (n+1) x] w λe w'=>e=aw (ae (if 20<=ms.length then 2 else bL (n+1) x))/\ap w w':=by
 have z:=f.len;obtain⟨A,u⟩:=f.box0;refine(r8 pb x.1.1 x.1.2.1 x.1.2.2 x.2.1.1 x.2.2.length x.2.1.2 vs.length mc ma w (λ_ l h d=>l=bL (n+1) x/\ap h d) (λ_ _ _ _ _ _=>False) u ?_ ?_ ?_).mono ?_
 ·intro d a;obtain⟨D,B,C,i,_⟩:=(f.later a).heap.box;exact(PL.cells i).2.2.2.1
 ·intro h a;have g:=a.size;refine((f.later a).putBad x ((v.below a).mono g) t p r (aG q g) k).mono ?_;rintro e d ⟨rfl,c⟩;exact⟨(0,0),_,rfl,⟨c.size,λb _ _ j=>c.block b j⟩,rfl,c⟩
 ·rintro y h d ⟨e,_⟩;exact absurd e.symm k
 ·rintro e w' ⟨i,m⟩;by_cases o:20<=vs.length
  ·obtain⟨rfl,a⟩:=i o;exact⟨by rw[if_pos (by omega)],a⟩
  ·obtain⟨y,l,h,d,rfl,a,⟨rfl,c⟩,j,_⟩:=m (by omega);have g:=a.size;exact⟨by rw[if_neg (by omega)],(a.trans (c.mono g)).trans ((j k).mono (by have:=c.size;omega))⟩
end
def nW(n:Nat)(x:Tm n)(room:Int)(s:Tc)(ms:List Tc):Int:=if 20<=ms.length then 2 else if bL n x≠0 then bL n x else if aY n x=false then 5 else if ((s::ms).map (sz 13)).sum+sz n x<=room then 0 else 6
theorem Gc{l:List Tc}(a:∀y∈l,bL 13 y=0):((l.map (cn 13)).map (sz 13)).sum=(l.map (sz 13)).sum:=by
 rw[jA];congr 1;exact lF λy b=>Gd (a y b)
section
variable {base pb:Nat} {name:aq} {room:Int} {n:Nat} {s:Tc} {ms:List Tc} {nk:Nat} {M:aX} {w:ah} {ws:List Wd} {nm:bm} {sv:Wd} {vs:List Wd} {ma:ay} {mc:Nat} {Mh:aX}
theorem cW.deliverC(f:cW base pb name room 13 s ms [] nk M w ws nm sv vs ma mc Mh)(x:Tm (n+1))(C:In w.heap.size w (n+1) x)(B:cG (λb=>¬M b) (n+1) x)(J:(aI (n+1) x).length<=2097152)(I:∀b,M b->b<w.heap.size)(A:nk<=94000)(G:ms.length<=999)(v:base<=w.heap.size):au 162 #[aF pb,dG (n+1) x] w λe w'=>e=aw (ae (nW (n+1) x room (cn 13 s) (ms.map (cn 13))))/\Hid (∃D q m o p k l h,cW base pb name room 13 s D [] (nk+201) (λb=>M b\/w.heap.size<=b) w' q m o p k l h/\co M w w'/\D.map (cn 13)=if nW (n+1) x room (cn 13 s) (ms.map (cn 13))=0 then ms.map (cn 13)++ [cn (n+1) x]else ms.map (cn 13)):=by
 have L:∀r∈s::ms,bL 13 r=0:=λr Q=>((f.front (N:=12)).2.2.1 r Q).1;have O:((cn 13 s::ms.map (cn 13)).map (sz 13)).sum=((s::ms).map (sz 13)).sum:=Gc L;by_cases a:bL (n+1) x=0
 ·have j:aM ⟨n+1,x⟩:=aZ.2 (bU.1 a).1;have i:gK (n+1) x<13:=by have:=(bU.1 a).2.1;omega
  have g:=jW 13 (n+1) x j i;have y:bL 13 (bq 13 (n+1) x)=0:=(bP g).trans a;have z:=f.deliver (N:=12) (bq 13 (n+1) x) (tC 13 (n+1) x _ _ j i C) (uY 13 (n+1) x _ j i B) (gI y) I A G v;have d:Ae 13 (bq 13 (n+1) x) room s ms=nW (n+1) x room (cn 13 s) (ms.map (cn 13)):=by
   unfold Ae nW tF;rw[O,cF,y,a,cH _ _ _ _ g,kY _ _ _ _ g]
  have P:dG (12+1) (bq (12+1) (n+1) x)=dG (n+1) x:=Ay 12 n x;rw[P]at z;refine z.mono ?_;rintro e w' ⟨rfl,E⟩;obtain⟨q,m,o,p,k,l,h,F,K⟩:=E;refine⟨congrArg (λS=>Ending.returned (ae S)) d,_,q,m,o,p,k,l,h,F,K,?_⟩;have H:Ae (12+1) (bq (12+1) (n+1) x) room s ms=nW (n+1) x room (cn 13 s) (ms.map (cn 13)):=d;rw[H];by_cases c:nW (n+1) x room (cn 13 s) (ms.map (cn 13))=0
  ·rw[if_pos c,if_pos c,fw];congr 1;exact congrArg (λt=> [t]) (gC g)
  ·rw[if_neg c,if_neg c]
 ·have d:nW (n+1) x room (cn 13 s) (ms.map (cn 13))=if 20<=ms.length then 2 else bL (n+1) x:=by
    unfold nW;rw[cF,if_pos a]
  have c:nW (n+1) x room (cn 13 s) (ms.map (cn 13))≠0:=by
   rw[d];split
   ·decide
   ·exact a
  refine(f.deliverBad (N:=12) x C B J A v a).mono ?_;rintro e w' ⟨rfl,u⟩;refine⟨by rw[d],ms,ws,nm,sv,vs,ma,mc,Mh,(f.later (N:=12) u).mono (N:=12) (λb R=>ak R) (by omega),bC u M,?_⟩;rw[if_neg c]
end
theorem Lr{x:Tm (n+1)}(room:Int)(name:aq)(b:bL (n+1) x=0):fx 13 (bq 13 (n+1) x) room name=fx (n+1) x room name:=by
 have d:aM ⟨n+1,x⟩:=aZ.2 (bU.1 b).1;have c:gK (n+1) x<13:=by have:=(bU.1 b).2.1;omega
 have a:=jW 13 (n+1) x d c;unfold fx jo;rw[bP a,cH _ _ _ _ a,kY _ _ _ _ a]
theorem Qe(n:Nat)(x:Tm (n+1))(room:Int)(name:aq)(w:ah)(m:name.size<=9223372036854775807)(o:In w.heap.size w (n+1) x)(q:(aI (n+1) x).length<=2097152):au 85 #[ag name,dG (n+1) x,ae room] w λe w'=>(fx (n+1) x room name≠0->e=aw (ax #[.pointer none,ae (fx (n+1) x room name)])/\ap w w')/\ (fx (n+1) x room name=0->∃d,e=aw (ax #[aF d,ae 0])/\Hid (w.heap.size<=d/\ap w w'/\bL (n+1) x=0/\∃s ws nm h Mh,cn 13 s=cn (n+1) x/\cW w.heap.size d name room 13 s [] [] 201 (λb=>w.heap.size<=b/\b<w'.heap.size) w' ws nm h [] none 0 Mh)):=by
 by_cases c:bL (n+1) x=0
 ·have k:aM ⟨n+1,x⟩:=aZ.2 (bU.1 c).1;have j:gK (n+1) x<13:=by have:=(bU.1 c).2.1;omega
  have l:=jW 13 (n+1) x k j;have r:bL 13 (bq 13 (n+1) x)=0:=(bP l).trans c;have i:=CV 12 (bq 13 (n+1) x) room name w m (tC 13 (n+1) x _ _ k j o) (gI r);have u:dG (12+1) (bq (12+1) (n+1) x)=dG (n+1) x:=Ay 12 n x;rw[u]at i;refine i.mono ?_;rintro e w' ⟨f,g⟩;have t:fx (12+1) (bq (12+1) (n+1) x) room name=fx (n+1) x room name:=Lr room name c;rw[t]at f g;refine⟨f,λa=>?_⟩;obtain⟨d,rfl,p⟩:=g a;obtain⟨v,y,ws,nm,h,Mh,z⟩:=p;exact⟨d,rfl,v,y,c,_,ws,nm,h,Mh,gC l,z⟩
 ·refine(CV n x room name w m o q).mono ?_;rintro e w' ⟨f,g⟩;refine⟨f,λa=>?_⟩;unfold fx at a;split at a
  ·cases a
  ·split at a
   ·cases a
   ·unfold jo at a;rw[if_pos c]at a;exact absurd a c
def P1(e l:Nat)(name:aq)(room:Int)(cs:Tc)(g:List Tc)(k:Nat)(M:aX)(w:ah):Prop:=
 ∃a d c o j m n h i f,cW a l name room 13 d c [] k M w o j m n h i f/\(cn 13 d=cs/\c.map (cn 13)=g)/\a<=w.heap.size/\∀b,M b->e<=b/\b<w.heap.size
section
variable {B0 pb:Nat} {name:aq} {room:Int} {cs:Tc} {cms:List Tc} {k:Nat} {M:aX} {w:ah}
theorem P1.later(g:P1 B0 pb name room cs cms k M w){w1:ah}(c:ap w w1):P1 B0 pb name room cs cms k M w1:=by
 obtain⟨f,o,m,r,n,p,q,j,l,e,h,i,s,a⟩:=g;have t:=c.size;exact⟨f,o,m,r,n,p,q,j,l,e,h.later (N:=12) c,i,by omega,λb d=>⟨(a b d).1,by have:=(a b d).2;omega⟩⟩
theorem P1.kept(g:P1 B0 pb name room cs cms k M w){S:aX}{w1:ah}(d:co S w w1)(j:∀b,M b->¬S b):P1 B0 pb name room cs cms k M w1:=by
 obtain⟨f,p,n,s,o,q,r,l,m,e,h,i,t,c⟩:=g;have u:=d.size;exact⟨f,p,n,s,o,q,r,l,m,e,h.kept (N:=12) d λb a _=>j b a,i,by omega,λb a=>⟨(c b a).1,by have:=(c b a).2;omega⟩⟩
def mM(M:aX)(w w':ah)(b:Nat):Prop:=(M b\/w.heap.size<=b)/\b<w'.heap.size
theorem P1.ok(h:P1 B0 pb name room cs cms k M w):bL 13 cs=0/\aY 13 cs=true/\(∀m∈cms,bL 13 m=0/\aY 13 m=true)/\((cs::cms).map (sz 13)).sum<=room:=by
 obtain⟨q,b,f,z,v,x,y,t,u,p,i,⟨rfl,rfl⟩,r,s⟩:=h;obtain⟨_,_,e,n,o,_⟩:=i.front (N:=12);have j:∀a∈b::f,bL 13 a=0:=λa d=>(e a d).1;have c:=e b (by simp);refine⟨oV c.1,(mY c.1).trans c.2,λm l=>?_,?_⟩
 ·obtain⟨a,d,rfl⟩:=cg.1 l;have:=e a (cd _ d);exact⟨oV this.1,(mY this.1).trans this.2⟩
 ·have g:((cn 13 b::f.map (cn 13)).map (sz 13)).sum=((b::f).map (sz 13)).sum:=Gc j;rw[g];exact Int.le_trans n o
theorem P1.deliver(j:P1 B0 pb name room cs cms k M w){n:Nat}(x:Tm (n+1))(t:In w.heap.size w (n+1) x)(s:cG (λb=>¬M b) (n+1) x)(q:(aI (n+1) x).length<=2097152)(r:k<=94000)(m:cms.length<=999)(G:B0<=w.heap.size):au 162 #[aF pb,dG (n+1) x] w λe w'=>e=aw (ae (nW (n+1) x room cs cms))/\Hid (co M w w'/\P1 B0 pb name room cs (if nW (n+1) x room cs cms=0 then cms++ [cn (n+1) x]else cms) (k+201) (mM M w w') w'):=by
 obtain⟨i,A,J,P,K,L,O,H,I,E,l,⟨rfl,rfl⟩,c,d⟩:=j;refine(l.deliverC x t s q (λb a=>(d b a).2) r (by simpa using m) c).mono ?_;rintro e w' ⟨rfl,h⟩;obtain⟨y,D,z,B,C,u,v,F,o,f,p⟩:=h;refine⟨rfl,f,i,A,y,D,z,B,C,u,v,_,o.inside (N:=12),⟨rfl,p⟩,aG c f.size,λb a=>⟨?_,a.2⟩⟩;rcases a.1 with g|g
 ·exact(d b g).1
 ·omega
theorem P1.state(d:P1 B0 pb name room cs cms k M w)(g:k<=95000):au 93 #[aF pb] w λe w'=>∃y:Tc,e=aw (dG 13 y)/\Hid (ap w w'/\In w'.heap.size w' 13 y/\cG (λq=>w.heap.size<=q) 13 y/\bL 13 y=0/\cn 13 y=cs):=by
 obtain⟨l,h,r,v,s,t,u,o,p,j,a,⟨rfl,rfl⟩,m,n⟩:=d;have f:=(a.front (N:=12)).2.2.1 h (by simp);refine(a.state (N:=12) g).mono ?_;rintro e w' ⟨y,rfl,c⟩;obtain⟨y1,y2,i,b⟩:=c;exact⟨y,rfl,y1,y2,i,(bP b).trans f.1,gC b⟩
end
section
variable {B0 pb:Nat} {name:aq} {room:Int} {cs:Tc} {cms:List Tc} {k:Nat} {M:aX} {w:ah}
theorem P1.mono(f:P1 B0 pb name room cs cms k M w){M':aX}{c a:Nat}(j:∀b,M b->M' b)(m:k<=c)(l:∀b,M' b->a<=b/\b<w.heap.size):P1 a pb name room cs cms c M' w:=by
 obtain⟨e,r,p,u,q,s,t,n,o,d,g,h,i,_⟩:=f;exact⟨e,r,p,u,q,s,t,n,o,d,g.mono (N:=12) j m,h,i,l⟩
def QH(B0 pb:Nat)(name:aq)(room:Int)(cs:Tc)(cms:List Tc)(k:Nat)(M:aX)(n:Nat)(l:List (Bh (n+1)))(self next:Int)(w:ah)(e:Ending)(w':ah):Prop:=
 (∃g,e=aw (ax #[N6,ae g])/\Hid (g≠0/\g=rB n room l name self next cs cms/\ap w w'))\/
  ∃(a:Tc)(f:Int)(sa:ay)(sl sc:Nat)(pa:ay)(pl pc:Nat)(ka:ay)(kl kc:Nat),e=aw (ax #[PK a.1.1 a.1.2.1 a.1.2.2 a.2.1.1 a.2.2.length a.2.1.2 f sa sl sc pa pl pc ka kl kc,ae 0])/\Hid (∃c d,rB n room l name self next cs cms=0/\ov room l name self next cs cms=some c/\f=c.fate/\cn 13 a=c.message/\bL 13 a=0/\In w'.heap.size w' 13 a/\cG (λh=>w.heap.size<=h/\h<d) 13 a/\co M w w'/\w.heap.size<d/\
   P1 B0 pb name room c.state c.mail (k+402) (λb=>(M b\/d<=b)/\b<w'.heap.size) w'/\c.mail.length<=cms.length/\mH (w.heap.size+1) c.sends c.spawns c.links sa sl sc pa pl pc ka kl kc (λ_=>True) w')
theorem P1.step(D:P1 B0 pb name room cs cms k M w){n:Nat}(l:List (Bh (n+1)))(a:ay)(c B:Nat)(K:iX (n+1) B w a l)(G:B<=w.heap.size)(L:l.length<=c)(O:c<=maxLen)(H:lm (n+1) l=true->(aI (n+6) (cY n l)).length<=2097152)(I:∀W,bH M w W->iX (n+1) B W a l)(ai:B0<=w.heap.size)(J:k<=92000)(F:cms.length<=999)(self next:Int):au 125 #[aF pb,af a l.length c,ae self,ae next] w (QH B0 pb name room cs cms k M n l self next w):=by
 obtain⟨C,ao,S,av,an,ap,aq,aj,al,ad,E,⟨rfl,rfl⟩,i,j⟩:=D;refine(E.step l a c B K G L O H (λb d=>(j b d).2) I J (by simpa using F) i self next).mono ?_;rintro ah ar (⟨Y,rfl,e⟩|⟨ab,f,sa,sl,sc,pa,pl,pc,ka,kl,kc,rfl,e⟩)
 ·exact ak ⟨Y,rfl,e⟩
 ·obtain⟨X,P,o,p,r,s,t,u,v,x,g,y,⟨U,aa,T,V,Z,Q,R,ag,z,A,h⟩,q⟩:=e;refine am ⟨ab,f,sa,sl,sc,pa,pl,pc,ka,kl,kc,rfl,X,o,p,r,s,t,u,v,x,g,y,⟨C,U,_,aa,T,V,Z,Q,R,_,z.inside (N:=12),⟨A,h⟩,aG i g.size,λb d=>⟨?_,d.2⟩⟩,?_,q⟩
  ·rcases d.1 with m|m
   ·exact(j b m).1
   ·omega
  ·rw[<-h,cF,cF];exact List.length_eraseIdx_le S P
end
theorem P1.new(n:Nat)(x:Tm (n+1))(room:Int)(name:aq)(w:ah)(m:name.size<=9223372036854775807)(o:In w.heap.size w (n+1) x)(k:(aI (n+1) x).length<=2097152):au 85 #[ag name,dG (n+1) x,ae room] w λe w'=>∃p:ay,e=aw (ax #[.pointer p,ae (fx (n+1) x room name)])/\Hid (ap w w'/\(fx (n+1) x room name≠0->p=none)/\(fx (n+1) x room name=0->∃a,p=some ⟨a,0,none⟩/\w.heap.size<=a/\bL (n+1) x=0/\P1 w.heap.size a name room (cn (n+1) x) [] 201 (λb=>w.heap.size<=b/\b<w'.heap.size) w')):=by
 refine(Qe n x room name w m o k).mono ?_;rintro e w' ⟨i,j⟩;by_cases c:fx (n+1) x room name=0
 ·obtain⟨a,rfl,g⟩:=j c;obtain⟨q,f,r,v,z,u,y,h,s,t⟩:=g;exact⟨some ⟨a,0,none⟩,by rw[c],f,λd=>absurd c d,λ_=>⟨a,rfl,q,r,w.heap.size,v,[],z,u,y,[],none,0,h,t,⟨s,rfl⟩,f.size,λb d=>d⟩⟩
 ·obtain⟨rfl,l⟩:=i c;exact⟨none,rfl,l,λ_=>rfl,λd=>absurd d c⟩
structure BL where
 b:Nat
 o:Nat
 c:Array az
 t:TypeId
def uC(p:BL)(a:dd)(w:ah):Prop:=(p.o<p.c.size/\p.t≠54)/\w.heap[p.b]?=some (.cells (p.c.setIfInBounds p.o (.map a)) p.t (0,0))
theorem uC.cell{p:BL}{c:dd}{w:ah}(a:uC p c w):w.cell? ⟨p.b,p.o,none⟩=some (.map c)/\∀j,w.frozen? ⟨p.b,j,none⟩=false:=by
 refine⟨?_,λj=>by simp[World.frozen?,a.2]⟩;simp[World.cell?,a.2,a.1.1]
variable{p:BL}
theorem uC.lt(a:uC p v w):p.b<w.heap.size:=(aS.1 a.2).1
theorem uC.kept{p:BL}{c:dd}{w w':ah}(a:uC p c w)(d:w'.heap[p.b]?=w.heap[p.b]?):uC p c w':=⟨a.1,d.trans a.2⟩
theorem uC.set{mo':dd}(a:uC p v w):uC p mo' (w.setCell ⟨p.b,p.o,none⟩ (.map mo')):=by
 refine⟨a.1,?_⟩;simp[World.setCell,bS,a.2]
def iA(base:Nat)(d:BL)(a:dd)(n N:Nat)(f:bE->List (Tm N))(sl:bE->az)(w:ah):Prop:=
 base<=d.b/\uC d a w/\((a=none/\f=(λ_=> [])/\sl=λ_=>nu)\/∃c,a=some c/\GM base c n N f sl w)
def sS(c:BL)(a:dd)(sl:bE->az)(b:Nat):Prop:=b=c.b\/a=some b\/∃k,I2 k/\(sl k).ownBlock=some b
variable {base n N:Nat} {wp:BL} {mo:dd} {f:bE->List (Tm N)} {sl:bE->az} {w:ah}
theorem iA.lt(c:iA base wp mo n N f sl w)(b:Nat)(a:sS wp mo sl b):base<=b/\b<w.heap.size:=by
 obtain⟨d,e,g⟩:=c;rcases a with rfl|a
 ·exact⟨d,e.lt⟩
 ·rcases g with⟨rfl,_,rfl⟩|⟨i,rfl,h⟩
  ·rcases a with a|⟨k,_,a⟩
   ·cases a
   ·simp[nu,Value.ownBlock]at a
  ·refine h.lt b ?_;rcases a with a|a
   ·exact ak (aJ a).symm
   ·exact am a
theorem Gn{d:BL}{b:Nat}{sl:bE->az}(c:Ow a sl b):sS d (some a) sl b:=by
 rcases c with rfl|c
 ·exact am (ak rfl)
 ·exact am (am c)
theorem iA.kee{S:aX}{w':ah}(c:iA base wp mo n N f sl w)(k:bH S w w')(d:∀b,sS wp mo sl b->¬S b):iA base wp mo n N f sl w':=by
 have j:=(c.lt wp.b (ak rfl)).2;obtain⟨e,g,a⟩:=c;refine⟨e,g.kept (k.block wp.b j (d wp.b (ak rfl))),?_⟩;rcases a with a|⟨l,rfl,i⟩
 ·exact ak a
 ·exact am ⟨l,rfl,i.kee k λb h=>d b (Gn h)⟩
theorem iA.later(a:iA base wp mo n N f sl w)(k:ap w w'):iA base wp mo n N f sl w':=a.kee (aR k λ_=>False) λ_ _ b=>b
theorem iA.row(a:iA base wp mo n N f sl w){k:bE}(c:I2 k):oS base N (sl k) (f k) w:=by
 rcases a.2.2 with⟨_,rfl,rfl⟩|⟨d,_,b⟩
 ·exact⟨by simp[dN,cO],ak ⟨rfl,rfl⟩⟩
 ·exact b.row k c
theorem iA.look(b:iA base wp mo n N f sl w){k:bE}(a:I2 k):(Instr.lookup 132 (.map mo) (pk k) false).run Tryz.prog w=.ok (sl k) w:=by
 rcases b.2.2 with⟨rfl,_,rfl⟩|⟨d,rfl,c⟩
 ·exact IC w a
 ·exact c.look a
theorem iA.cell(a:iA base wp mo n N f sl w):ai w wp.b (wp.o) (.map mo)/\∀j,w.frozen? ⟨wp.b,j,none⟩=false:=by
 exact a.2.1.cell
theorem oS.sliced{v:Value}{l:List (Tm N)}(d:oS base N v l w):∃a c,v=.slice a l.length c:=by
 rcases d.2 with⟨rfl,b⟩|⟨f,cap,e,rfl,_⟩
 ·exact⟨none,0,by rw[b]⟩
 ·exact⟨_,_,rfl⟩
theorem JN(c:iA base wp mo n N f sl w){a b:Int}(g:I2 (a,b)):au 210 #[.pointer (some ⟨wp.b,wp.o,none⟩),ae a,ae b] w λe w'=>e=aw (ae (f (a,b)).length)/\w'=w:=by
 have i:=c.cell.1;obtain⟨sa,sc,h⟩:=(c.row g).sliced;have d:=c.look g;rw[h]at d;unfold pk at d;simp only at d;clear c;go_enter func210,ntmps210;go_wp2_with fail
 go_ret
 exact⟨rfl,rfl⟩
theorem Gx(a:Int)(w:ah):au 209 #[ae a] w λe w'=>e=aw (.bool (decide (1<=a) && decide (a<=99)))/\w'=w:=by
 go_enter func209,ntmps209;by_cases b:1<=a<;>by_cases c:a<=99
 all_goals
  go_wp2_with fail
  go_ret
  simp[b,c]
variable {base mb n N:Nat} {f:bE->List (Tm N)} {sl:bE->az} {w wr:ah}
def OI(base mb n N:Nat)(f:bE->List (Tm N))(sl:bE->az)(k:bE)(g:Nat)(W e:ah):Prop:=
 ∀(a:ah)(c:az)(l:List (Tm N)),a.heap[mb]?=e.heap[mb]? ->bH (λb=>b=mb\/(sl k).ownBlock=some b) W a->l≠[]->oS base N c l a->(∀b,c.ownBlock=some b->(sl k).ownBlock=some b\/W.heap.size<=b)->
  ∃d,(Instr.entryStore 132 (.map (some mb)) (goInt g) c).run Tryz.prog a=.ok () d/\GM base mb (n+1) N (iz f k l) (iz sl k c) d/\bH (λb=>b=mb) a d/\d.heap.size=a.heap.size
def QA(base mb n N:Nat)(f:bE->List (Tm N))(sl:bE->az)(k:bE)(y:Tm N)(wr c:ah):Prop:=
 ∃a,GM base mb (n+1) N (iz f k (f k++ [y])) (iz sl k a) c/\bH (Ow mb sl) wr c/\∀b,Ow mb (iz sl k a) b->Ow mb sl b\/wr.heap.size<=b
theorem GM.open(d:GM base mb n N f sl wr)(h:I2 k)(i:n<1000000)(e:ap wr W):∃(c:Nat)(a:ah),(Instr.mapEntry 132 (.map (some mb)) (pk k)).run Tryz.prog W=.ok (ax #[sl k,goInt c]) a/\bH (λb=>b=mb) W a/\a.heap.size=W.heap.size/\OI base mb n N f sl k c W a:=
 (d.kee (aR e λ_=>False) λ_ _ g=>g).entry h i
theorem OI.done(p:GM base mb n N f sl wr)(t:I2 k){L:Nat}{j l h:ah}(B:OI base mb n N f sl k a W j)(r:ap wr W)(J:bH (λb=>b=mb) W j)(M:j.heap.size=W.heap.size)(m:ap j l)(D:l.grownBy h (sl k).ownBlock){c:Nat}{y:Tm N}(z:(f k).length=L)(F:h.ownsRow base 54 4 (af (some ⟨g,0,none⟩) (L+1) c) (L+1) (dN N (f k)++wL (gM N y)))(A:(sl k).ownBlock=some g\/g=l.heap.size):∃i,(Instr.entryStore 132 (.map (some mb)) (goInt a) (af (some ⟨g,0,none⟩) (L+1) c)).run Tryz.prog h=.ok () i/\QA base mb n N f sl k y wr i/\bH (λb=>b=mb) h i/\i.heap.size=h.heap.size:=by
 subst z;have K:=p.lt mb (ak rfl);have P:=r.size;have O:=m.size;have w:=ex D;have I:(Value.slice (some ⟨g,0,none⟩) ((f k).length+1) c).ownBlock=some g:=rfl;have v:∀b,(Value.slice (some ⟨g,0,none⟩) ((f k).length+1) c).ownBlock=some b->(sl k).ownBlock=some b\/W.heap.size<=b:=λb e=>by
  rw[I]at e;injection e with e;subst e;rcases A with d|d
  ·exact ak d
  ·exact am (by omega)
 have q:bH (λb=>b=mb\/(sl k).ownBlock=some b) W h:=by
  refine bH.trans (bH.trans (J.mono λb _ d=>ak d) (aR m λ_=>False) λ_ _ C=>C.elim) w λb _ d=>am d
 have E:h.heap[mb]?=j.heap[mb]? :=(w.block mb (by omega) (p.ne t)).trans (m.block mb (by omega))
 obtain⟨i,G,x,u,H⟩:=B h _ (f k++ [y]) E q (by simp) (by
  unfold oS;rw[qB,br];have d:dN N [y]=wL (gM N y):=by simp[dN,cO]
  rw[d]
  exact F) v
 refine⟨i,G,⟨_,x,?_,λb e=>?_⟩,u,H⟩
 ·refine bH.trans (bH.trans (aR r _) (q.mono (T:=λb=>b=mb\/(sl k).ownBlock=some b) λb _ d=>d) λb _ d=>?_) u λb _ d=>ak d;rcases d with d|d
  ·exact ak d
  ·exact am ⟨k,t,d⟩
 ·rcases e with e|⟨o,s,e⟩
  ·exact ak (ak e)
  ·by_cases d:o=k
   ·subst d;rw[dh]at e;rcases v b e with d|d
    ·exact ak (am ⟨o,s,d⟩)
    ·exact am (by omega)
   ·rw[ci _ _ d]at e;exact ak (am ⟨o,s,e⟩)
section
variable {ops:Array Oper} {o:Oper} {a:Act} {K:Act->bF} {Q:Exit->Act->bF} {E:Prop}
end
end Go.Proofs.YthjclakhibnamaaGreatDoor
