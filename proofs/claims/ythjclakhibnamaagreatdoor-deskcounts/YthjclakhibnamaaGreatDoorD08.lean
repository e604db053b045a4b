/- Proved here: plain facts and contracts. No condition but what each names. -/
import Derived.Test.YthjclakhibnamaaGreatDoorD07
import Derived.Deep.MidRow
namespace Go.Proofs.YthjclakhibnamaaGreatDoor
open Go.RowKit Go.Proofs.Tryz
open Go.RowKit Go.Maps
set_option maxRecDepth 100000
set_option maxHeartbeats 8000000
def tQ(b:List Tc)(self:Int)(n:Nat)(x:Tm n):Option Tc:=(vl 13 b self n x).bind λa=>if bJ (13+n) a=0 then some (cn (13+n) a)else none
def og(b:List Tc)(self:Int)(n:Nat)(x:Tm n):Option Int:=(tQ b self n x).bind λt=>if t.1.1=3 then some t.1.2.1 else none
structure Dg where
 b:List Tc
 next:Int
 sends:List (Int×Tc)
 spawns:List (Int×aq×Tc)
 links:List Int
 stops:Bool
def E8(a:Int):Tc:=((3,a,.empty),(none,0),[])
def r8(self:Int){n:Nat}(a:Ac (n+1))(d:Dg):Option Dg:=
 if a.1=1 then (og d.b self (n+1) a.2.1.1).bind λc=>(tQ d.b self (n+1) a.2.1.2).map λt=>{d with sends:=d.sends++ [(c,t)]}
 else if a.1=2 then (tQ d.b self (n+1) a.2.1.2).bind λt=>if cg ⟨13,(d.b[a.2.2.2.toNat]?).getD (E8 0)⟩=6 then some {d with b:=d.b.set a.2.2.2.toNat (E8 d.next),next:=d.next+1,spawns:=d.spawns++ [(d.next,a.2.2.1,t)]}else none
 else if a.1=3 then (og d.b self (n+1) a.2.1.1).map λc=>{d with links:=d.links++ [c]}
 else some {d with stops:=true}
def qS(self:Int){n:Nat}:List (Ac (n+1))->Dg->Option Dg
 | [],d=>some d
 | a::l,d=>(r8 self a d).bind (qS self l)
structure Tk where
 message:Tc
 fate:Int
 sends:List (Int×Tc)
 spawns:List (Int×aq×Tc)
 links:List Int
 state:Tc
 mail:List Tc
def fG{n:Nat}(room self next:Int)(s m:Tc)(ms:List Tc)(c:Cl (n+1))(b:List Tc):Tk:=
 match qS self c.2.2 ⟨b,next,[],[],[],false⟩with
 | none=>⟨m,2,[],[],[],s,ms⟩
 | some a=>match tQ a.b self (n+1) c.1.2.2 with
  | none=>⟨m,2,[],[],[],s,ms⟩
  | some t=>if (ms.map (sz 13)).sum+sz 13 t<=room then ⟨m,if a.stops then 1 else 0,a.sends,a.spawns,a.links,t,ms⟩else ⟨m,3,[],[],[],s,ms⟩
def gJ{n:Nat}(name:aq)(l:List (Bh (n+1))):List (Cl (n+1)):=((gE (n+1) name l).map λb=>b.2.2).getD []
def ou{n:Nat}(room:Int)(l:List (Bh (n+1)))(name:aq)(self next:Int)(s:Tc)(ms:List Tc):Option Tk:=
 (td (gJ name l) s ms 0).bind λa=>(ms[a.1]?).map λb=>fG room self next s b (ms.eraseIdx a.1) a.2.1 a.2.2
variable{room self:Int}{B ms:List Tc}{vs ws:List Wd}{a e h u D N g i n o q:Nat}{s:Tc}{m:Type}{t:TypeId}{d:Wd}{M Mh S:aU}{W w w':ah}{name:aq}{ma:aw}{b c f j v0 v1 v2 v3:ax}{k:bC}{nm:bj}{v:da}{l r:List m}
theorem yX{l:List (Tm D)}(c:gF D l=true)(d:l.map (cn D)=B):aL (λx y=>aH D x 13 y) l B=true:=by
 rw[<-d];refine rq (λy x=>aH 13 y D x) _ _ _ (λf _ b a=>dD _ _ _ _ a) (jo _ _ _ λy e=>?_);exact eF ((iA c).2 y e).1
theorem LO{l:List (Tm D)}(b:gF D l=true)(c:l.map (cn D)=B):gF 13 B=true:=by
 have e:=yX b c;obtain⟨f,g⟩:=iA b;unfold gF;rw[<-cV _ _ _ e,f];simp only[decide_true,eS,cX];intro k d;rw[<-c]at d;obtain⟨j,i,rfl⟩:=b9.1 d;have a:=g j i;have h:=eF a.1;simp only[CO,aO,cR,kh];refine⟨oU a.1,?_⟩;rw[lk h,<-fP,mW a.1];exact a.2.2
theorem Mq{l:List (Tm D)}(b:gF D l=true)(g:l.map (cn D)=B)(self:Int)(x:Tm n)(k:bJ n x=0):(oQ 0 (vl D l self n x)).map (cn (D+n))=tQ B self n x:=by
 have j:aJ ⟨n,x⟩:=aW.2 (bS.1 k).1;have i:=LO b g;have a:=sN D l 13 B self (yX b g) (λd c=>aW.2 (bS.1 ((iA b).2 d c).1).1) (λd c=>aW.2 (bS.1 ((iA i).2 d c).1).1) n x j;unfold tQ oQ;cases e1:vl D l self n x with
 | none=>
  rw[e1]at a;cases e2:vl 13 B self n x with
  | none=>rfl
  | some _=>
   rw[e2]at a;exact a.elim
 | some m=>
  rw[e1]at a;cases e2:vl 13 B self n x with
  | none=>
   rw[e2]at a;exact a.elim
  | some h=>
   rw[e2]at a;have f:aH (D+n) m (13+n) h=true:=a;simp only[cB,dS];rw[bN f];by_cases e:bJ (13+n) h=0
   ·simp[e,gA f]
   ·simp[e]
theorem PA(d:gF 13 B=true){x:Tm n}(f:bJ n x=0){t:Tc}(a:tQ B self n x=some t):bJ 13 t=0/\aV 13 t=true/\cn 13 t=t:=by
 have e:aJ ⟨n,x⟩:=aW.2 (bS.1 f).1;unfold tQ at a;obtain⟨c,h,a⟩:=cr.1 a;by_cases b:bJ (13+n) c=0
 ·rw[if_pos b]at a;obtain rfl:=aG a;refine⟨oU b,?_,MV b⟩;rw[mW b];exact zw 13 B self (λi g=>((iA d).2 i g).2.2) n x e c h
 ·rw[if_neg b]at a;cases a
def mm(b a:Nat)(d c lv:ax)(q:Nat):Prop:=q=b\/q=a\/d.ownBlock=some q\/c.ownBlock=some q\/lv.ownBlock=some q
def My(base b a:Nat)(d c lv:ax)(q:Nat):Prop:=base<=q/\¬mm b a d c lv q
structure eJ (base db:Nat) (me:Int) (n D k:Nat) (nx:Int) (d:Dg) (w:ah) (l:List (Tm (D+1))) (bg bc:Nat) (sd:List (Int×Tm (D+1+n+1))) (sp:List (Int×aq×Tm (D+1+n+1))) (sv pv lv:ax):Prop where
 box:w.heap[db]?=some (.cells #[af (some ⟨bg,0,none⟩) 4 bc,ae me,ae d.next,sv,pv,lv,.bool d.stops] 243)
 own:db≠bg/\base<=db/\base<=bg/\bg<w.heap.size/\base<=w.heap.size
 bnd:gF (D+1) l=true
 tells:l.map (cn (D+1))=d.b
 row:∀(i:Nat)(y:Tm (D+1)),l[i]?=some y->ee w bg (i*4) (D+1) y/\In w.heap.size w (D+1) y/\cE (My base db bg sv pv lv) (D+1) y
 free:∀j,w.frozen? ⟨bg,j,none⟩=false
 sRow:w.ownsRow base 250 5 sv sd.length (sd.flatMap λz=>Ou z.1 z.2)
 pRow:w.ownsRow base 247 6 pv sp.length (sp.flatMap λz=>Pv z.1 z.2.1 z.2.2)
 lRow:w.ownsRow base 3 1 lv d.links.length (d.links.map λu=>ae u)
 sIs:sd.map (λz=>(z.1,cn _ z.2))=d.sends
 pIs:sp.map (λz=>(z.1,z.2.1,cn _ z.2.2))=d.spawns
 sIn:∀z∈sd,bJ _ z.2=0/\In w.heap.size w _ z.2/\cE (My base db bg sv pv lv) _ z.2
 pIn:∀z∈sp,bJ _ z.2.2=0/\In w.heap.size w _ z.2.2/\cE (My base db bg sv pv lv) _ z.2.2
 apart:(sv.ownBlock≠some db/\pv.ownBlock≠some db/\lv.ownBlock≠some db)/\(sv.ownBlock≠some bg/\pv.ownBlock≠some bg/\lv.ownBlock≠some bg)/\∀q,(sv.ownBlock=some q->pv.ownBlock≠some q/\lv.ownBlock≠some q)/\(pv.ownBlock=some q->lv.ownBlock≠some q)
 few:sd.length<=k/\sp.length<=k/\d.links.length<=k/\d.next=nx+sp.length/\1<=nx/\nx<=92
def Do(base b:Nat)(self:Int)(n D k:Nat)(g:Int)(d:Dg)(S:aU)(w0 w:ah):Prop:=∃l a f h i e c lv,eJ base b self n D k g d w l a f h i e c lv/\∀q,mm b a e c lv q->S q\/w0.heap.size<=q
theorem tA{base:Nat}{x:Tm n}{c:aU}(k:bG S w w')(f:∀q,c q->S q\/w.heap.size<=q)(d:In w.heap.size w n x)(e:cE (λq=>base<=q/\¬S q) n x):In w'.heap.size w' n x/\cE (λq=>base<=q/\¬c q) n x:=by
 refine⟨d.kee k (e.mono λq a=>a.2),(In.offB e d).mono λq a=>⟨a.1.1,λb=>?_⟩⟩;rcases f q b with b|b
 ·exact a.1.2 b
 ·have:=a.2;omega
theorem EK{q:List (Tm n)}{a:aw}(c:fT w.heap.size w n q a)(d:ap w w'):fT w'.heap.size w' n q a:=by
 rcases c.below d with c|⟨b,o,h,i,c⟩
 ·exact ak c
 ·exact am ⟨b,o,h,aY i d.size,λf g e=>⟨(c f g e).1,(c f g e).2.mono d.size⟩⟩
section
variable {base db:Nat} {self:Int} {n D k:Nat} {nx:Int} {d:Dg} {w:ah} {l:List (Tm (D+1))} {bg bc:Nat} {sd:List (Int×Tm (D+1+n+1))} {sp:List (Int×aq×Tm (D+1+n+1))} {sv pv lv:ax}
theorem eJ.lt(a:eJ base db self n D k nx d w l bg bc sd sp sv pv lv):db<w.heap.size:=(aN.1 a.box).1
theorem eJ.high(c:eJ base db self n D k nx d w l bg bc sd sp sv pv lv):∀q,mm db bg sv pv lv q->base<=q:=by
 intro q a;obtain⟨_,i,j,_⟩:=c.own;have f:∀{b:TypeId}{r o:Nat}{g:ax}{p:dG},w.ownsRow base b r g o p->g.ownBlock=some q->base<=q:=λm e=>by
  rcases m.2 with⟨b,_⟩|⟨h,cap,s,b,t,_⟩
  ·rw[b]at e;cases e
  ·rw[b]at e;have:h=q:=aG e;omega
 rcases a with rfl|rfl|a|a|a
 ·exact i
 ·exact j
 ·exact f c.sRow a
 ·exact f c.pRow a
 ·exact f c.lRow a
theorem eJ.later(a:eJ base db self n D k nx d w l bg bc sd sp sv pv lv){w':ah}(e:ap w w'):eJ base db self n D k nx d w' l bg bc sd sp sv pv lv:=by
 have h:=aM e (λ_=>False);have i:=e.size;obtain⟨t,u,v,q,y⟩:=a.own;refine⟨(e.block db a.lt).trans a.box,⟨t,u,v,by omega,by omega⟩,a.bnd,a.tells,λs x r=>?_,λo=>?_,bB a.sRow h λ_ _ g=>g,bB a.pRow h λ_ _ g=>g,bB a.lRow h λ_ _ g=>g,a.sIs,a.pIs,λm j=>?_,λm j=>?_,a.apart,a.few⟩
 ·obtain⟨f,b,c⟩:=a.row s x r;exact⟨f.below e q,(b.below e).mono i,c⟩
 ·exact(e.frozen (p:=⟨bg,o,none⟩) q).trans (a.free o)
 ·obtain⟨f,b,c⟩:=a.sIn m j;exact⟨f,(b.below e).mono i,c⟩
 ·obtain⟨f,b,c⟩:=a.pIn m j;exact⟨f,(b.below e).mono i,c⟩
theorem eJ.more(a:eJ base db self n D k nx d w l bg bc sd sp sv pv lv){g:Nat}(i:k<=g):eJ base db self n D g nx d w l bg bc sd sp sv pv lv:=by
 obtain⟨h,b,c,e,f⟩:=a.few;exact{a with few:=⟨by omega,by omega,by omega,e,f⟩}
theorem eJ.lies(a:eJ base db self n D k nx d w l bg bc sd sp sv pv lv):fT w.heap.size w (D+1) l (some ⟨bg,0,none⟩):=am ⟨bg,0,rfl,a.own.2.2.2.1,λi y b=>by
 rw[cw]
 exact⟨(a.row i y b).1,(a.row i y b).2.1⟩⟩
theorem eJ.value(a:eJ base db self n D k nx d w l bg bc sd sp sv pv lv)(x:Tm (n+1))(r:In base w (n+1) x)(g:bJ (n+1) x=0)(o:1<=self/\self<=99):∀W,ap w W->au 179 #[aC db,.agg (bf x)] W (xU (D+1+n) (oQ 0 (vl (D+1) l self (n+1) x)) W):=by
 intro W b;have i:GH (bJ (n+1) x) (gF (D+1) l) self=0:=by simp[GH,g,a.bnd,o]
 have f:=(iA a.bnd).1;have m:=a.lies;have h:=a.own.2.2.2.2;have q:=Ad (D+1+n) 0 (vl (D+1) l self (n+1) x) x.1.1 x.1.2.1 x.1.2.2 x.2.1.1 x.2.2.length x.2.1.2 (some ⟨bg,0,none⟩) bc self db W (aY a.lt b.size) ((b.cell (p:=⟨db,0,none⟩) a.lt).trans (aj a.box 0)) ((b.cell (p:=⟨db,1,none⟩) a.lt).trans (aj a.box 1)) λe j=>by
  have c:=b.trans (j.mono b.size);have:=Fj n (D+1) x l (some ⟨bg,0,none⟩) bc e.heap.size self e ((r.below (c.mono h)).mono (aD h c.size)) (EK m c) (ay _) (gG g) (by rw[f];decide) (λt s=>gG ((iA a.bnd).2 t s).1);rw[i,f]at this;exact this
 exact q
theorem eJ.process(i:eJ base db self n D k nx d w l bg bc sd sp sv pv lv)(x:Tm (n+1))(z:In base w (n+1) x)(m:bJ (n+1) x=0)(u:1<=self/\self<=99):∀W,ap w W->au 238 #[aC db,.agg (bf x)] W λe w'=>∃g,e=.returned (.tuple #[ae g,.bool (og d.b self (n+1) x).isSome])/\Hid (ap W w'/\∀v,og d.b self (n+1) x=some v->g=v):=by
 intro W j;have a:=Mq i.bnd i.tells self x m;refine(BZ (D+1+n) _ x.1.1 x.1.2.1 x.1.2.2 x.2.1.1 x.2.2.length x.2.1.2 db W λs t=>i.value x z m u s (j.trans (t.mono j.size))).mono ?_;rintro e w' ⟨g,rfl,p⟩;obtain⟨q,r⟩:=p;have o:Gr (oQ 0 (vl (D+1) l self (n+1) x))=(og d.b self (n+1) x).isSome/\∀v,og d.b self (n+1) x=some v->g=v:=by
  unfold og;rw[<-a];cases e:oQ 0 (vl (D+1) l self (n+1) x)with
  | none=>exact⟨rfl,λv a=>by cases a⟩
  | some c=>
   have A:(cn (D+1+n+1) c).1=c.1:=rfl;have y:=r c e;simp only[lI,dS,Gr];by_cases h:c.1.1=3
   ·have f:(cn (D+1+n+1) c).1.1=3:=h;refine⟨?_,λv a=>?_⟩
    ·erw [if_pos f]
     simp[h]
    ·erw [if_pos f]at a
     rw[y,<-aG a];rfl
   ·have f:¬(cn (D+1+n+1) c).1.1=3:=h;refine⟨?_,λv a=>?_⟩
    ·erw [if_neg f]
     simp[h]
    ·erw [if_neg f]at a
     cases a
 exact⟨g,by rw[o.1],q,o.2⟩
end
section
variable {base db:Nat} {self:Int} {n D k:Nat} {nx:Int} {d:Dg} {w:ah} {l:List (Tm (D+1))} {bg bc:Nat} {sd:List (Int×Tm (D+1+n+1))} {sp:List (Int×aq×Tm (D+1+n+1))} {sv pv lv:ax}
def zH(base db:Nat)(self:Int)(n D k:Nat)(nx:Int)(d:Dg)(a:Ac (n+1))(S:aU)(w:ah)(t:Bool)(w':ah):Prop:=
 bG S w w'/\t=(r8 self a d).isSome/\∀b,r8 self a d=some b->Do base db self n D (k+1) nx b S w w'
theorem nB{w:ah}{base:Nat}{e:TypeId}{g m:Nat}{v:ax}{xs:dG}(f:w.ownsRow base e g v m xs):∃a c,v=af a m c:=by
 rcases f.2 with⟨b,d⟩|⟨i,cap,h,b,_⟩
 ·exact⟨none,0,by rw[b,d]⟩
 ·exact⟨_,cap,b⟩
theorem pt{w:ah}{b:Nat}{v0 v1 v2 v3 a c d:ax}{t:TypeId}(e:w.heap[b]?=some (.cells #[v0,v1,v2,v3,a,c,d] t)):(∀v,(w.setCell ⟨b,3,none⟩ v).heap[b]?=some (.cells #[v0,v1,v2,v,a,c,d] t))/\(∀v,(w.setCell ⟨b,4,none⟩ v).heap[b]?=some (.cells #[v0,v1,v2,v3,v,c,d] t))/\(∀v,(w.setCell ⟨b,5,none⟩ v).heap[b]?=some (.cells #[v0,v1,v2,v3,a,v,d] t))/\(∀v,(w.setCell ⟨b,2,none⟩ v).heap[b]?=some (.cells #[v0,v1,v,v3,a,c,d] t))/\∀v,(w.setCell ⟨b,6,none⟩ v).heap[b]?=some (.cells #[v0,v1,v2,v3,a,c,v] t):=by
 refine⟨λv=>?_,λv=>?_,λv=>?_,λv=>?_,λv=>?_⟩<;>
 ·unfold World.setCell;simp[bQ,e]
theorem uV{w:ah}{b:Nat}{cs:Array ax}{t:TypeId}(a:w.heap[b]?=some (.cells cs t))(j:Nat):w.frozen? ⟨b,j,none⟩=false:=by simp[World.frozen?,a]
theorem eJ.frame(c:eJ base db self n D k nx d w l bg bc sd sp sv pv lv){w':ah}{j h g:ax}(f:bG (mm db bg sv pv lv) w w')(m:∀q,mm db bg j h g q->mm db bg sv pv lv q\/w.heap.size<=q):(∀(i:Nat)(y:Tm (D+1)),l[i]?=some y->In w'.heap.size w' (D+1) y/\cE (My base db bg j h g) (D+1) y)/\(∀a∈sd,bJ _ a.2=0/\In w'.heap.size w' _ a.2/\cE (My base db bg j h g) _ a.2)/\(∀a∈sp,bJ _ a.2.2=0/\In w'.heap.size w' _ a.2.2/\cE (My base db bg j h g) _ a.2.2)/\Below base w w':=
 ⟨λi y o=>tA f m (c.row i y o).2.1 (c.row i y o).2.2,λa e=>⟨(c.sIn a e).1,tA f m (c.sIn a e).2.1 (c.sIn a e).2.2⟩,λa e=>⟨(c.pIn a e).1,tA f m (c.pIn a e).2.1 (c.pIn a e).2.2⟩,f.below c.own.2.2.2.2 λb p q=>by
  have:=c.high b q
  omega⟩
theorem eJ.link(g:eJ base db self n D k nx d w l bg bc sd sp sv pv lv)(a:Ac (n+1))(P:jJ (n+1) base w a)(T:bJ (n+1) a.2.1.1=0)(O:a.1=3)(Y:1<=self/\self<=99)(al:k<=1000):au 230 #[aC db,PG a] w λe w'=>∃t,e=.returned (.bool t)/\Hid (zH base db self n D k nx d a (mm db bg sv pv lv) w t w'):=by
 have J:=g.lRow;obtain⟨r,s,rfl⟩:=nB J;obtain⟨f1,f2,f3,f4⟩:=g.few;have u:r8 self a d=(og d.b self (n+1) a.2.1.1).map λx=>{d with links:=d.links++ [x]}:=by
  simp[r8,O]
 refine(Ix a.1 a.2.1.1.1.1 a.2.1.1.1.2.1 a.2.1.1.1.2.2 a.2.1.1.2.1.1 a.2.1.1.2.2.length a.2.1.1.2.1.2 a.2.1.2.1.1 a.2.1.2.1.2.1 a.2.1.2.1.2.2 a.2.1.2.2.1.1 a.2.1.2.2.2.length a.2.1.2.2.1.2 a.2.2.1 a.2.2.2 base db r d.links.length s _ w (og d.b self (n+1) a.2.1.1).isSome (λx=>∀y,og d.b self (n+1) a.2.1.1=some y->x=y) (by omega) g.lt g.own.2.2.2.2 ⟨aj g.box 5,uV g.box 5⟩ J g.apart.1.2.2 (g.process a.2.1.1 P.2.1 T Y)).mono ?_;rintro e w' ⟨rfl,U,v⟩;refine⟨_,rfl,?_⟩;cases hp:og d.b self (n+1) a.2.1.1 with
 | none=>
  have Q:=U (by rw[hp];rfl);refine⟨aM Q _,by rw[u,hp];rfl,λN o=>?_⟩;rw[u,hp]at o;cases o
 | some y=>
  obtain⟨x,m,c,z,aa,X,j,i,rfl⟩:=v (by rw[hp];rfl);obtain rfl:=aa y hp;have S:z.heap[db]?=_:=(j.block db g.lt λf=>g.apart.1.2.2 f).trans g.box;have C:bG (mm db bg sv pv (af r d.links.length s)) w (z.setCell ⟨db,5,none⟩ (af (some ⟨m,0,none⟩) (d.links.length+1) c)):=bG.trans (j.mono λf _ h=>am (am (am (am h)))) (bM _ _ _ _) λf _ h=>ak h;have p:∀f,f<w.heap.size->¬(Value.slice r d.links.length s).ownBlock=some f->m≠f:=λf h V e=>by
   rcases i with i|i
   ·rw[e]at i;exact V i
   ·omega
  have H:∀f,mm db bg sv pv (af (some ⟨m,0,none⟩) (d.links.length+1) c) f->mm db bg sv pv (af r d.links.length s) f\/w.heap.size<=f:=λf h=>by
   rcases h with h|h|h|h|h
   ·exact ak (ak h)
   ·exact ak (am (ak h))
   ·exact ak (am (am (ak h)))
   ·exact ak (am (am (am (ak h))))
   ·have:m=f:=aG h;subst this;rcases i with i|i
    ·exact ak (am (am (am (am i))))
    ·exact am i
  obtain⟨ag,ah,ai,ap⟩:=g.frame C H;refine⟨C,by rw[u,hp];rfl,λN o=>?_⟩;rw[u,hp]at o;obtain rfl:=aG o;have an:=C.size;obtain⟨F,ad,ae,G,ao⟩:=g.own;have q:=bM z db 5 (af (some ⟨m,0,none⟩) (d.links.length+1) c);have Z:∀f,sv.ownBlock=some f->f<w.heap.size:=λf h=>by
   obtain⟨M,B⟩:=eI g.sRow f h;exact(aN.1 B).1
  have W:∀f,pv.ownBlock=some f->f<w.heap.size:=λf h=>by
   obtain⟨M,B⟩:=eI g.pRow f h;exact(aN.1 B).1
  have A:¬(Value.slice r d.links.length s).ownBlock=some bg:=g.apart.2.1.2.2;refine⟨l,bg,bc,sd,sp,sv,pv,_,⟨(pt S).2.2.1 _,⟨F,ad,ae,by omega,by omega⟩,g.bnd,g.tells,λK L v=>⟨?_,ag K L v⟩,λab=>?_,?_,?_,?_,g.sIs,g.pIs,ah,ai,⟨⟨g.apart.1.1,g.apart.1.2.1,?_⟩,⟨g.apart.2.1.1,g.apart.2.1.2.1,?_⟩,λf=>⟨λh=>⟨((g.apart.2.2 f).1 h).1,?_⟩,λh=>?_⟩⟩,⟨by omega,by omega,by simp;omega,f4⟩⟩,H⟩
  ·exact((g.row K L v).1.kee j G A).kee q (by have:=j.size;omega) (λe=>F e.symm)
  ·have R:(z.setCell ⟨db,5,none⟩ (af (some ⟨m,0,none⟩) (d.links.length+1) c)).heap[bg]?=w.heap[bg]? :=(q.block bg (by have:=j.size;omega) (λe=>F e.symm)).trans (j.block bg G A);have I:=g.free ab;unfold World.frozen? at I ⊢;rw[R];exact I
  ·exact bB (bB g.sRow j λf h E=>((g.apart.2.2 f).1 h).2 E) q λf h e=>g.apart.1.1 (by rw[h,e])
  ·exact bB (bB g.pRow j λf h E=>(g.apart.2.2 f).2 h E) q λf h e=>g.apart.1.2.1 (by rw[h,e])
  ·have:=bB X q λf h e=>p db g.lt g.apart.1.2.2 (by
     have:m=f:=aG h
     rw[this,e])
   simpa using this
  ·exact λe=>p db g.lt g.apart.1.2.2 (aG e)
  ·exact λe=>p bg G A (aG e)
  ·exact λe=>p f (Z f h) (((g.apart.2.2 f).1 h).2) (aG e)
  ·exact λe=>p f (W f h) ((g.apart.2.2 f).2 h) (aG e)
end
section
variable {base db:Nat} {self:Int} {n D k:Nat} {nx:Int} {d:Dg} {w:ah} {l:List (Tm (D+1))} {bg bc:Nat} {sd:List (Int×Tm (D+1+n+1))} {sp:List (Int×aq×Tm (D+1+n+1))} {sv pv lv:ax}
theorem NS{N:Nat}{o:Option (Tm N)}{c:Tm N}(a:oQ 0 o=some c):bJ N c=0:=by
 unfold oQ at a;rw[if_pos rfl]at a;obtain⟨d,_,a⟩:=cr.1 a;by_cases b:bJ N d=0
 ·rw[if_pos b]at a;rw[<-aG a];exact b
 ·rw[if_neg b]at a;cases a
theorem eJ.told(e:eJ base db self n D k nx d w l bg bc sd sp sv pv lv)(x:Tm (n+1))(h:bJ (n+1) x=0):(oQ 0 (vl (D+1) l self (n+1) x)).isSome=(tQ d.b self (n+1) x).isSome/\∀(a:Tm (D+1+n+1)) t,tQ d.b self (n+1) x=some t->aH _ a (D+1+n+1) ((oQ 0 (vl (D+1) l self (n+1) x)).getD (xw (D+1+n)))=true->bJ _ a=0/\aV _ a=true/\cn _ a=t:=by
 have m:=Mq e.bnd e.tells self x h;refine⟨by rw[<-m,Option.isSome_map],λa t f c=>?_⟩;have p:=PA (LO e.bnd e.tells) h f;rw[<-m]at f;obtain⟨q,o,rfl⟩:=cH.1 f;rw[o]at c;have c:aH _ a _ q=true:=c;have i:=(bN c).trans (NS o);have j:=gA c;refine⟨i,?_,j⟩;have g:=p.2.1;rw[<-j,mW i]at g;exact g
theorem eJ.send(h:eJ base db self n D k nx d w l bg bc sd sp sv pv lv)(a:Ac (n+1))(P:jJ (n+1) base w a)(ad:bJ (n+1) a.2.1.1=0)(Q:bJ (n+1) a.2.1.2=0)(Z:a.1=1)(V:1<=self/\self<=99)(aB:k<=1000):au 228 #[aC db,PG a] w λe w'=>∃t,e=.returned (.bool t)/\Hid (zH base db self n D k nx d a (mm db bg sv pv lv) w t w'):=by
 have U:=h.sRow;obtain⟨y,z,rfl⟩:=nB U;obtain⟨f1,f2,f3,f4⟩:=h.few;have s:r8 self a d=(og d.b self (n+1) a.2.1.1).bind λx=>(tQ d.b self (n+1) a.2.1.2).map λt=>{d with sends:=d.sends++ [(x,t)]}:=by
  simp[r8,Z]
 obtain⟨ah,ai⟩:=h.told (self:=self) a.2.1.2 Q;refine(Jh (D+1+n) a.1 a.2.1.1.1.1 a.2.1.1.1.2.1 a.2.1.1.1.2.2 a.2.1.1.2.1.1 a.2.1.1.2.2.length a.2.1.1.2.1.2 a.2.1.2.1.1 a.2.1.2.1.2.1 a.2.1.2.1.2.2 a.2.1.2.2.1.1 a.2.1.2.2.2.length a.2.1.2.2.1.2 a.2.2.1 a.2.2.2 base db y sd.length z _ w (og d.b self (n+1) a.2.1.1).isSome (λx=>∀A,og d.b self (n+1) a.2.1.1=some A->x=A) (oQ 0 (vl (D+1) l self (n+1) a.2.1.2)) (by omega) h.lt h.own.2.2.2.2 ⟨aj h.box 3,uV h.box 3⟩ U h.apart.1.1 (h.process a.2.1.1 P.2.1 ad V) (h.value a.2.1.2 P.2.2.1 Q V)).mono ?_;rintro e w' ⟨rfl,K,i⟩;refine⟨_,rfl,?_⟩;rw[ah]at K i ⊢;cases hp:og d.b self (n+1) a.2.1.1 with
 | none=>
  have E:=K (by rw[hp];rfl);refine⟨aM E _,by rw[s,hp];rfl,λN p=>?_⟩;rw[s,hp]at p;cases p
 | some A=>
  cases g:tQ d.b self (n+1) a.2.1.2 with
  | none=>
   have E:=K (by rw[hp,g];rfl);refine⟨aM E _,by rw[s,hp,g];rfl,λN p=>?_⟩;rw[s,hp,g]at p;cases p
  | some t=>
   obtain⟨x,r,j,c,B,al,aq,ao,W,ag,q,m,rfl⟩:=i (by rw[hp,g];rfl);obtain rfl:=al A hp;obtain⟨an,_,ar⟩:=ai r t g aq;have ab:B.heap[db]?=_:=(q.block db h.lt λf=>h.apart.1.1 f).trans h.box;have I:bG (mm db bg (af y sd.length z) pv lv) w (B.setCell ⟨db,3,none⟩ (af (some ⟨j,0,none⟩) (sd.length+1) c)):=bG.trans (q.mono λf _ g=>am (am (ak g))) (bM _ _ _ _) λf _ g=>ak g;have v:∀f,f<w.heap.size->¬(Value.slice y sd.length z).ownBlock=some f->j≠f:=λf g ae e=>by
    rcases m with m|m
    ·rw[e]at m;exact ae m
    ·omega
   have O:∀f,mm db bg (af (some ⟨j,0,none⟩) (sd.length+1) c) pv lv f->mm db bg (af y sd.length z) pv lv f\/w.heap.size<=f:=λf g=>by
    rcases g with g|g|g|g|g
    ·exact ak (ak g)
    ·exact ak (am (ak g))
    ·have:j=f:=aG g;subst this;rcases m with m|m
     ·exact ak (am (am (ak m)))
     ·exact am m
    ·exact ak (am (am (am (ak g))))
    ·exact ak (am (am (am (am g))))
   obtain⟨ay,az,aA,aH⟩:=h.frame I O;refine⟨I,by rw[s,hp,g];rfl,λN p=>?_⟩;rw[s,hp,g]at p;obtain rfl:=aG p;have aD:=I.size;have aE:=q.size;obtain⟨L,aw,ax,M,aF⟩:=h.own;have u:=bM B db 3 (af (some ⟨j,0,none⟩) (sd.length+1) c);have S:∀f,lv.ownBlock=some f->f<w.heap.size:=λf g=>by
    obtain⟨Y,G⟩:=eI h.lRow f g;exact(aN.1 G).1
   have T:∀f,pv.ownBlock=some f->f<w.heap.size:=λf g=>by
    obtain⟨Y,G⟩:=eI h.pRow f g;exact(aN.1 G).1
   have F:¬(Value.slice y sd.length z).ownBlock=some bg:=h.apart.2.1.1;have ap:cE (My base db bg (af (some ⟨j,0,none⟩) (sd.length+1) c) pv lv) _ r:=W.mono λf g=>by
    have:=h.lt;refine⟨by omega,λo=>?_⟩;rcases o with o|o|o|o|o
    ·omega
    ·omega
    ·exact g.2 (aG o).symm
    ·have:=T f o;omega
    ·have:=S f o;omega
   refine⟨l,bg,bc,sd++ [(x,r)],sp,_,pv,lv,⟨(pt ab).1 _,⟨L,aw,ax,by omega,by omega⟩,h.bnd,h.tells,λX C i=>⟨?_,ay X C i⟩,λav=>?_,?_,?_,?_,?_,h.pIs,λC i=>?_,aA,⟨⟨?_,h.apart.1.2.1,h.apart.1.2.2⟩,⟨?_,h.apart.2.1.2.1,h.apart.2.1.2.2⟩,λf=>⟨λg=>⟨λe=>?_,λe=>?_⟩,(h.apart.2.2 f).2⟩⟩,⟨by simp;omega,by omega,by show d.links.length<=k+1;omega,f4⟩⟩,O⟩
   ·exact((h.row X C i).1.kee q M F).kee u (by omega) (λe=>L e.symm)
   ·have aa:(B.setCell ⟨db,3,none⟩ (af (some ⟨j,0,none⟩) (sd.length+1) c)).heap[bg]?=w.heap[bg]? :=(u.block bg (by omega) (λe=>L e.symm)).trans (q.block bg M F);have R:=h.free av;unfold World.frozen? at R ⊢;rw[aa];exact R
   ·have:=bB ag u λf g e=>v db h.lt h.apart.1.1 (by
      have:j=f:=aG g
      rw[this,e])
    simpa using this
   ·exact bB (bB h.pRow q λf g J=>((h.apart.2.2 f).1 J).1 g) u λf g e=>h.apart.1.2.1 (by rw[g,e])
   ·exact bB (bB h.lRow q λf g J=>((h.apart.2.2 f).1 J).2 g) u λf g e=>h.apart.1.2.2 (by rw[g,e])
   ·simp[h.sIs,ar]
   ·rcases dt.1 i with i|i
    ·exact az C i
    ·obtain rfl:=dN.1 i;refine⟨an,?_,ap⟩;refine ao.kee u (W.mono λf g e=>?_);have:=h.lt;omega
   ·exact λe=>v db h.lt h.apart.1.1 (aG e)
   ·exact λe=>v bg M F (aG e)
   ·have H:j=f:=aG g;exact v f (T f e) (λr=>((h.apart.2.2 f).1 r).1 e) H
   ·have H:j=f:=aG g;exact v f (S f e) (λr=>((h.apart.2.2 f).1 r).2 e) H
end
theorem nb(w:ah)(g o:Nat)(v0 v1 v2 v3:ax):bG (λb=>b=g) w (dj w g o v0 v1 v2 v3):=
 bG.trans (bG.trans (bG.trans (bM w g o v0) (bM _ g (o+1) v1) λ_ _ a=>a) (bM _ g (o+2) v2) λ_ _ a=>a) (bM _ g (o+3) v3) λ_ _ a=>a
theorem CT(j:Nat)(a:j<o\/o+4<=j):(dj w g o v0 v1 v2 v3).cell? ⟨g,j,none⟩=w.cell? ⟨g,j,none⟩:=by
 unfold dj;rw[dQ j (by omega),dQ j (by omega),dQ j (by omega),dQ j (by omega)]
theorem yS(v0 v1 v2 v3:ax)(a:ai w g o b/\ai w g (o+1) c/\ai w g (o+2) f/\ai w g (o+3) j):(dj w g o v0 v1 v2 v3).cell? ⟨g,o,none⟩=some v0/\(dj w g o v0 v1 v2 v3).cell? ⟨g,o+1,none⟩=some v1/\(dj w g o v0 v1 v2 v3).cell? ⟨g,o+2,none⟩=some v2/\(dj w g o v0 v1 v2 v3).cell? ⟨g,o+3,none⟩=some v3:=by
 obtain⟨d,e,h,i⟩:=a;unfold dj;refine⟨?_,?_,?_,?_⟩
 ·rw[dQ o (by omega),dQ o (by omega),dQ o (by omega)];exact iO _ _ _ d
 ·rw[dQ (o+1) (by omega),dQ (o+1) (by omega)];exact iO _ _ _ ((dQ (o+1) (by omega)).trans e)
 ·rw[dQ (o+2) (by omega)];exact iO _ _ _ ((dQ (o+2) (by omega)).trans ((dQ (o+2) (by omega)).trans h))
 ·exact iO _ _ _ ((dQ (o+3) (by omega)).trans ((dQ (o+3) (by omega)).trans ((dQ (o+3) (by omega)).trans i)))
theorem uu(j:Nat):(dj w g o v0 v1 v2 v3).frozen? ⟨g,j,none⟩=w.frozen? ⟨g,j,none⟩:=by
 unfold dj;rw[ia,ia,ia,ia]
theorem Ht(w:ah)(p:Addr):w.drew.cell? p=w.cell? p:=rfl
theorem B4(w:ah)(p:Addr):w.drew.frozen? p=w.frozen? p:=rfl
theorem ee.far{x:Tm n}(b:ee w g o n x)(a:∀j,o<=j->j<o+4->w'.cell? ⟨g,j,none⟩=w.cell? ⟨g,j,none⟩):ee w' g o n x:=by
 cases n with
 | zero=>exact b.elim
 | succ n=>
  obtain⟨c,d,e,f⟩:=b;exact⟨(a _ (by omega) (by omega)).trans c,(a _ (by omega) (by omega)).trans d,(a _ (by omega) (by omega)).trans e,(a _ (by omega) (by omega)).trans f⟩
theorem Pj(a:Int)(D:Nat)(h:1<=a/\a<=99):CO (D+1) (cv 3 a D)=true/\cn (D+1) (cv 3 a D)=E8 a:=by
 refine⟨?_,rfl⟩;have f:cu (D+1) (cv 3 a D)=true:=by
  rw[<-aW];intro b c;have:b=((3,a,.empty),(none,0,0)):=by simpa [aF,cv]using c
  subst this;have g:qW a 1 99=true:=by simp[qW];omega
  simp[cJ,g]
 have d:bJ (D+1) (cv 3 a D)=0:=bS.2 ⟨f,by simp[gI,cv],by simp[sz,cv]⟩;have e:aV (D+1) (cv 3 a D)=true:=by simp[aV,cv]
 simp only[CO,d,aO,kh];refine⟨rfl,am ?_⟩;rw[<-fP];exact e
theorem MP{l:List (Tm D)}(a:gF D l=true)(i:Nat){y:Tm D}(c:CO D y=true):gF D (l.set i y)=true:=by
 simp only[gF,lC,aO,cT,cX]at a ⊢;refine⟨a.1,λd b=>?_⟩;rcases tX b with b|rfl
 ·exact a.2 d b
 ·exact c
section
variable {base db:Nat} {self:Int} {n D k:Nat} {nx:Int} {d:Dg} {w:ah} {l:List (Tm (D+1))} {bg bc:Nat} {sd:List (Int×Tm (D+1+n+1))} {sp:List (Int×aq×Tm (D+1+n+1))} {sv pv lv:ax}
theorem eJ.spawn(h:eJ base db self n D k nx d w l bg bc sd sp sv pv lv)(a:Ac (n+1))(aK:jJ (n+1) base w a)(ah:bJ (n+1) a.2.1.2=0)(aJ:a.1=2)(aY:eh a.2.2.1=true)(bq:0<=a.2.2.2/\a.2.2.2<4)(a0:1<=self/\self<=99)(bk:k<=7):au 229 #[aC db,PG a] w λe w'=>∃t,e=.returned (.bool t)/\Hid (zH base db self n D k nx d a (mm db bg sv pv lv) w t w'):=by
 have aq:=h.pRow;obtain⟨M,N,rfl⟩:=nB aq;obtain⟨f1,f2,f3,f4,f5,f6⟩:=h.few;obtain⟨m,Y⟩:∃m:Nat,a.2.2.2=(m:Int):=⟨a.2.2.2.toNat,by omega⟩;have a3:m<4:=by omega
 have bj:=(iA h.bnd).1;obtain⟨p,ax⟩:∃p,l[m]?=some p:=⟨l[m]'(by omega),aS _⟩;obtain⟨y1,y2,bv⟩:=h.row m p ax;have aQ:d.b[m]?=some (cn (D+1) p):=by rw[<-h.tells,df,ax];rfl
 have F:r8 self a d=(tQ d.b self (n+1) a.2.1.2).bind λt=>if p.1.1=6 then some {d with b:=d.b.set m (E8 d.next),next:=d.next+1,spawns:=d.spawns++ [(d.next,a.2.2.1,t)]}else none:=by
  have aV:cg ⟨13,(d.b[a.2.2.2.toNat]?).getD (E8 0)⟩=p.1.1:=by
   rw[Y,Int.toNat_natCast,aQ];rfl
  have aW:¬a.1=1:=by omega
  unfold r8;rw[if_neg aW,if_pos aJ,aV,Y,Int.toNat_natCast]
 obtain⟨a1,a2⟩:=h.told (self:=self) a.2.1.2 ah
 have q:=Ft (D+1+n) a.1 a.2.1.1.1.1 a.2.1.1.1.2.1 a.2.1.1.1.2.2 a.2.1.1.2.1.1 a.2.1.1.2.2.length a.2.1.1.2.1.2 a.2.1.2.1.1 a.2.1.2.1.2.1 a.2.1.2.1.2.2 a.2.1.2.2.1.1 a.2.1.2.2.2.length a.2.1.2.2.1.2 a.2.2.1 m base db M sp.length N _ w (oQ 0 (vl (D+1) l self (n+1) a.2.1.2)) bg bc d.next p.1.1 p.1.2.1 p.1.2.2 p.2.1.1 p.2.2.length p.2.1.2 a3 (by omega) h.lt h.own.2.2.2.1 h.own.1 h.own.2.2.2.2 (by omega) (by omega) (by
   simp only[eh,qW,aO,cT]at aY
   omega)
  ⟨aj h.box 4,aj h.box 0,aj h.box 2,λj=>uV h.box j,h.free⟩ aq ⟨h.apart.1.2.1,h.apart.2.1.2.1⟩ y1 (λaB=>jR _ _ _ _ _ _ aB) (h.value a.2.1.2 aK.2.2.1 ah a0)
 rw[<-Y]at q;refine q.mono ?_;rintro e w' ⟨rfl,X,ay⟩;refine⟨_,rfl,?_⟩;rw[a1]at X ay ⊢;cases f:tQ d.b self (n+1) a.2.1.2 with
 | none=>
  have T:=X (by rw[f];rfl);refine⟨aM T _,by rw[F,f];rfl,λS r=>?_⟩;rw[F,f]at r;cases r
 | some t=>
  by_cases E:p.1.1=6;rotate_left
  ·have T:=X (by rw[f];simp[E]);refine⟨aM T _,by rw[F,f];simp[E],λS r=>?_⟩;rw[F,f]at r;simp[E]at r
  ·obtain⟨y,g,c,az,x,C,a9,a7,Q,aZ,A,s,aw,Z,av⟩:=ay (by rw[f];simp[E]);obtain⟨a4,_,ba⟩:=a2 y t f a9;have aL:az.heap[db]?=_:=(A.block db h.lt λi=>h.apart.1.2.1 i).trans h.box;obtain⟨G,bb,bd,R,bt⟩:=h.own;have bp:=A.size;have U:=(pt aL).2.1 (af (some ⟨g,0,none⟩) (sp.length+1) c);rw[<-aw]at U;have u:bG (λb=>b=db) az x:=by rw[aw];exact bM _ _ _ _
   have B:bG (λb=>b=bg) x C:=by
    rw[Z];exact bG.trans (nb x bg (m*4) _ _ _ _) (aM ((aE _ _).drew) _) λ_ _ e=>e
   have aP:C.heap[db]?=_:=(B.block db (aN.1 U).1 G).trans U;have v:bG (λb=>b=db) C w':=by rw[av];exact bM _ _ _ _
   have ad:=(pt aP).2.2.2.1 (ae (d.next+1));rw[<-av]at ad;have bm:=u.size;have bn:=B.size;have bo:=v.size;have an:bG (mm db bg sv (af M sp.length N) lv) w w':=bG.trans (bG.trans (bG.trans (A.mono λi _ f=>am (am (am (ak f)))) u λi _ f=>ak f) B λi _ f=>am (ak f)) v λi _ f=>ak f;have z:∀i,i<w.heap.size->¬(Value.slice M sp.length N).ownBlock=some i->g≠i:=λi f aX e=>by
    rcases s with s|s
    ·rw[e]at s;exact aX s
    ·omega
   have ab:∀i,mm db bg sv (af (some ⟨g,0,none⟩) (sp.length+1) c) lv i->mm db bg sv (af M sp.length N) lv i\/w.heap.size<=i:=λi f=>by
    rcases f with f|f|f|f|f
    ·exact ak (ak f)
    ·exact ak (am (ak f))
    ·exact ak (am (am (ak f)))
    ·have:g=i:=aG f;subst this;rcases s with s|s
     ·exact ak (am (am (am (ak s))))
     ·exact am s
    ·exact ak (am (am (am (am f))))
   obtain⟨be,bf,bh,bu⟩:=h.frame an ab;refine⟨an,by rw[F,f];simp[E],λS r=>?_⟩;rw[F,f]at r;have r:some {d with b:=d.b.set m (E8 d.next),next:=d.next+1,spawns:=d.spawns++ [(d.next,a.2.2.1,t)]}=some S:=by simpa [E]using r
   obtain rfl:=aG r;have ao:∀i,lv.ownBlock=some i->i<w.heap.size:=λi f=>by
    obtain⟨aD,V⟩:=eI h.lRow i f;exact(aN.1 V).1
   have ar:∀i,sv.ownBlock=some i->i<w.heap.size:=λi f=>by
    obtain⟨aD,V⟩:=eI h.sRow i f;exact(aN.1 V).1
   have O:¬(Value.slice M sp.length N).ownBlock=some bg:=h.apart.2.1.2.1;have a8:cE (My base db bg sv (af (some ⟨g,0,none⟩) (sp.length+1) c) lv) _ y:=Q.mono λi f=>by
    have:=h.lt;refine⟨by omega,λq=>?_⟩;rcases q with q|q|q|q|q
    ·omega
    ·omega
    ·have:=ar i q;omega
    ·exact f.2 (aG q).symm
    ·have:=ao i q;omega
   have ap:=Pj d.next D (by omega)
   -- the row of what is bound
   have H:∀j,x.cell? ⟨bg,j,none⟩=w.cell? ⟨bg,j,none⟩:=λj=>(u.cell j (by omega) (λe=>G e.symm)).trans (A.cell j R O);have J:∀j,w'.cell? ⟨bg,j,none⟩=C.cell? ⟨bg,j,none⟩:=λj=>v.cell j (by omega) (λe=>G e.symm);have I:∀j,C.cell? ⟨bg,j,none⟩=(dj x bg (m*4) (ae 3) (ae d.next) (ag ⟨#[]⟩) (af none 0 0)).cell? ⟨bg,j,none⟩:=λj=>by
    rw[Z,Ht]
   have aR:∀j,j<m*4\/m*4+4<=j->w'.cell? ⟨bg,j,none⟩=w.cell? ⟨bg,j,none⟩:=λj aU=>by
    rw[J,I,CT j aU];exact H j
   have P:=yS (w:=x) (g:=bg) (o:=m*4) (ae 3) (ae d.next) (ag ⟨#[]⟩) (af none 0 0) ⟨(H _).trans y1.1,(H _).trans y1.2.1,(H _).trans y1.2.2.1,(H _).trans y1.2.2.2⟩;refine⟨l.set m (cv 3 d.next D),bg,bc,sd,sp++ [(d.next,a.2.2.1,y)],sv,_,lv,⟨ad,⟨G,bb,bd,by omega,by omega⟩,MP h.bnd m ap.1,?_,λaa aA L=>?_,λj=>?_,?_,?_,?_,h.sIs,?_,bf,λbi K=>?_,⟨⟨h.apart.1.1,?_,h.apart.1.2.2⟩,⟨h.apart.2.1.1,?_,h.apart.2.1.2.2⟩,λi=>⟨λf=>⟨λe=>?_,((h.apart.2.2 i).1 f).2⟩,λf e=>?_⟩⟩,⟨by omega,by simp;omega,by show d.links.length<=k+1;omega,by show d.next+1=nx+((sp++ [(d.next,a.2.2.1,y)]).length:Nat);simp;omega,f5,f6⟩⟩,ab⟩
   ·rw[List.map_set,h.tells,ap.2]
   ·by_cases ai:m=aa
    ·subst ai;rw[List.getElem?_set_self (by omega)]at L;obtain rfl:=aG L;have al:=lW D 3 d.next (by unfold dm;omega) (by unfold dm;omega) w'.heap.size w' (My base db bg sv (af (some ⟨g,0,none⟩) (sp.length+1) c) lv);refine⟨⟨?_,?_,?_,?_⟩,al.1,al.2⟩
     ·rw[J,I];exact P.1
     ·rw[J,I];exact P.2.1
     ·rw[J,I];exact P.2.2.1
     ·rw[J,I];exact P.2.2.2
    ·rw[List.getElem?_set_ne ai]at L;exact⟨(h.row aa aA L).1.far λj br bs=>aR j (by omega),be aa aA L⟩
   ·have aI:w'.frozen? ⟨bg,j,none⟩=C.frozen? ⟨bg,j,none⟩:=by
      unfold World.frozen?;rw[v.block bg (by omega) (λe=>G e.symm)]
    have aH:C.frozen? ⟨bg,j,none⟩=x.frozen? ⟨bg,j,none⟩:=by
     rw[Z,B4,uu]
    have aF:x.frozen? ⟨bg,j,none⟩=w.frozen? ⟨bg,j,none⟩:=by
     unfold World.frozen?;rw[u.block bg (by omega) (λe=>G e.symm),A.block bg R O]
    rw[aI,aH,aF];exact h.free j
   ·refine bB (bB (bB (bB h.sRow A λi f W=>((h.apart.2.2 i).1 f).1 W) u λi f e=>h.apart.1.1 (by rw[f,e])) B λi f e=>h.apart.2.1.1 (by rw[f,e])) v λi f e=>h.apart.1.1 (by rw[f,e])
   ·have:=bB (bB (bB aZ u λi f e=>z db h.lt h.apart.1.2.1 (by
      have:g=i:=aG f
      rw[this,e])) B λi f e=>z bg R O (by
      have:g=i:=aG f
      rw[this,e])) v λi f e=>z db h.lt h.apart.1.2.1 (by
      have:g=i:=aG f
      rw[this,e])
    simpa using this
   ·refine bB (bB (bB (bB h.lRow A λi f W=>(h.apart.2.2 i).2 W f) u λi f e=>h.apart.1.2.2 (by rw[f,e])) B λi f e=>h.apart.2.1.2.2 (by rw[f,e])) v λi f e=>h.apart.1.2.2 (by rw[f,e])
   ·simp[h.pIs,ba]
   ·rcases dt.1 K with K|K
    ·exact bh bi K
    ·obtain rfl:=dN.1 K;have bl:=h.lt;have a5:=a7.kee u (Q.mono λi f e=>by omega);have a6:=a5.kee B (Q.mono λi f e=>by omega);exact⟨a4,a6.kee v (Q.mono λi f e=>by omega),a8⟩
   ·exact λe=>z db h.lt h.apart.1.2.1 (aG e)
   ·exact λe=>z bg R O (aG e)
   ·exact z i (ar i f) (λy=>((h.apart.2.2 i).1 f).1 y) (aG e)
   ·have aT:g=i:=aG f;exact z i (ao i e) (λy=>(h.apart.2.2 i).2 y e) aT
end
def OA{n:Nat}(a:Ac (n+1)):Prop:=oN (n+1) a=true/\(a.1=1\/a.1=3->bJ (n+1) a.2.1.1=0)/\(a.1=1\/a.1=2->bJ (n+1) a.2.1.2=0)
theorem qT(self:Int){n:Nat}:(p q:List (Ac (n+1)))->(d:Dg)->qS self (p++q) d=(qS self p d).bind (qS self q)
 | [],_,_=>rfl
 | a::p,q,d=>by
  simp only[fJ,qS];cases r8 self a d with
  | none=>rfl
  | some b=>exact qT self p q b
theorem KE(self:Int){l:List (Ac (n+1))}{a:Ac (n+1)}(b:l[i]?=some a)(d:Dg):qS self (l.take (i+1)) d=(qS self (l.take i) d).bind (r8 self a):=by
 rw[dJ,b,qT];congr 1;funext x;show qS self [a] x=r8 self a x;simp only[qS];cases r8 self a x<;>rfl
theorem KC(self:Int){l:List (Ac (n+1))}{d:Dg}(a:qS self (l.take i) d=none):qS self l d=none:=by
 rw[<-iL i l,qT,a];rfl
section
variable {base db:Nat} {self:Int} {n D k:Nat} {nx:Int} {d:Dg} {w:ah} {l:List (Tm (D+1))} {bg bc:Nat} {sd:List (Int×Tm (D+1+n+1))} {sp:List (Int×aq×Tm (D+1+n+1))} {sv pv lv:ax}
theorem zH.from{a:Ac (n+1)}{S:aU}{W w':ah}{t:Bool}(b:zH base db self n D k nx d a S W t w')(c:ap w W):zH base db self n D k nx d a S w t w':=⟨(aM c S).trans b.1 λ_ _ e=>e,b.2.1,λh l=>by
 obtain⟨o,g,f,s,u,v,r,p,i,j⟩:=b.2.2 h l;refine⟨o,g,f,s,u,v,r,p,i,λq m=>?_⟩;rcases j q m with e|e
 ·exact ak e
 ·have:=c.size
  exact am (by omega)⟩
theorem jJ.later{B:Nat}{a:Ac (n+1)}{W:ah}(b:jJ (n+1) B w a)(c:Below B w W):jJ (n+1) B W a:=⟨b.1,b.2.1.below c,b.2.2.1.below c,b.2.2.2⟩
theorem eJ.stop(a:eJ base db self n D k nx d w l bg bc sd sp sv pv lv):Do base db self n D (k+1) nx {d with stops:=true} (mm db bg sv pv lv) w (w.setCell ⟨db,6,none⟩ (.bool true))/\bG (mm db bg sv pv lv) w (w.setCell ⟨db,6,none⟩ (.bool true)):=by
 have e:=bM w db 6 (.bool true);obtain⟨s,t,u,y⟩:=a.frame (w':=w.setCell ⟨db,6,none⟩ (.bool true)) (e.mono λf _ b=>ak b) λf c=>ak c;obtain⟨g,q,r,m,x⟩:=a.own;have v:=e.size;obtain⟨f1,f2,f3,f4⟩:=a.few;refine⟨⟨l,bg,bc,sd,sp,sv,pv,lv,⟨(pt a.box).2.2.2.2 _,⟨g,q,r,by omega,by omega⟩,a.bnd,a.tells,λj o i=>⟨(a.row j o i).1.kee e m (λb=>g b.symm),s j o i⟩,λp=>?_,bB a.sRow e λf c b=>a.apart.1.1 (by rw[c,b]),bB a.pRow e λf c b=>a.apart.1.2.1 (by rw[c,b]),bB a.lRow e λf c b=>a.apart.1.2.2 (by rw[c,b]),a.sIs,a.pIs,t,u,a.apart,⟨by omega,by omega,by show d.links.length<=k+1;omega,f4⟩⟩,λf c=>ak c⟩,e.mono λf _ b=>ak b⟩;have h:=a.free p;unfold World.frozen? at h ⊢;rw[e.block bg m (λb=>g b.symm)];exact h
theorem eJ.one(c:eJ base db self n D k nx d w l bg bc sd sp sv pv lv)(a:Ac (n+1))(m:jJ (n+1) base w a)(A:OA a)(p:1<=self/\self<=99)(y:k<=7):au 204 #[aC db,PG a] w λe w'=>∃t,e=.returned (.bool t)/\Hid (zH base db self n D k nx d a (mm db bg sv pv lv) w t w'):=by
 obtain⟨f,r,s⟩:=A;have o:=c.own.2.2.2.2;refine Lv a.1 a.2.1.1.1.1 a.2.1.1.1.2.1 a.2.1.1.1.2.2 a.2.1.1.2.1.1 a.2.1.1.2.2.length a.2.1.1.2.1.2 a.2.1.2.1.1 a.2.1.2.1.2.1 a.2.1.2.1.2.2 a.2.1.2.2.1.1 a.2.1.2.2.2.length a.2.1.2.2.1.2 a.2.2.1 a.2.2.2 db w (zH base db self n D k nx d a (mm db bg sv pv lv) w) c.lt ⟨d.stops,aj c.box 6,uV c.box 6⟩ ?_ ?_ ?_ ?_
 ·intro i h b;refine((c.later b).send a (m.later (b.mono o)) (r (ak i)) (s (ak i)) i p (by omega)).mono ?_;rintro e w' ⟨t,rfl,g⟩;exact⟨t,rfl,g.from b⟩
 ·intro j h b;have x:eh a.2.2.1=true/\0<=a.2.2.2/\a.2.2.2<4:=by
   have z:¬a.1=1:=by omega
   unfold oN at f;rw[if_neg z,if_pos j]at f;simp only[aO,cT]at f;exact⟨f.1.1.2,f.1.2,f.2⟩
  refine((c.later b).spawn a (m.later (b.mono o)) (s (am j)) j x.1 x.2 p y).mono ?_;rintro e w' ⟨t,rfl,g⟩;exact⟨t,rfl,g.from b⟩
 ·intro q h b;refine((c.later b).link a (m.later (b.mono o)) (r (am q)) q p (by omega)).mono ?_;rintro e w' ⟨t,rfl,g⟩;exact⟨t,rfl,g.from b⟩
 ·intro B C E h b;have u:r8 self a d=some {d with stops:=true}:=by
   unfold r8;rw[if_neg B,if_neg C,if_neg E]
  obtain⟨F,G⟩:=(c.later b).stop;refine zH.from ⟨G,by rw[u];rfl,λH v=>?_⟩ b;rw[u]at v;obtain rfl:=aG v;exact F
theorem eJ.all(G:eJ base db self n D 0 nx d w l bg bc sd sp sv pv lv)(ac:List (Ac (n+1)))(K:aw)(T:Nat)(N:Lay base w 11 (gX (n+1)) (jJ (n+1) base w) K ac)(ab:∀a∈ac,OA a)(W:ac.length<=8)(ad:1<=self/\self<=99):au 178 #[aC db,af K ac.length T] w λe w'=>∃t,e=.returned (.bool t)/\Hid (bG (mm db bg sv pv lv) w w'/\t=(qS self ac d).isSome/\∀g,qS self ac d=some g->Do base db self n D 8 nx g (mm db bg sv pv lv) w w'):=by
 have aa:=G.own.2.2.2.2;have Q:∀{c:ah},bG (mm db bg sv pv lv) w c->Below base w c:=λj=>j.below aa λb X k=>by
  have:=G.high b k;omega
 refine(J8 ac K ac.length T db w (λi c=>bG (mm db bg sv pv lv) w c/\∃g,qS self (ac.take i) d=some g/\Do base db self n D i nx g (mm db bg sv pv lv) w c) (λc=>bG (mm db bg sv pv lv) w c/\qS self ac d=none) (by omega) rfl ?_ ?_ ?_ ?_).mono ?_
 ·rintro i a c h ⟨j,_⟩;rcases N with e|⟨b,o,e,R,I⟩
  ·rw[e]at h;simp at h
  ·exact⟨b,o,e,λS av Z=>((Q j).cell (p:=⟨b,o+i*11+S,none⟩) R).trans ((I i a h).1 S av Z)⟩
 ·rintro i c ax ⟨j,g,H,z,x,v,C,E,F,B,A,q,m⟩ M;exact⟨j.trans (aM M (λ_=>False)) λ_ _ e=>e.elim,g,H,z,x,v,C,E,F,B,A,q.later M,m⟩
 ·rintro i a c h ⟨j,g,H,z,x,v,C,E,F,B,A,q,m⟩;have az:=(aZ.1 h).1;have Y:jJ (n+1) base c a:=by
   rcases N with e|⟨b,o,e,R,I⟩
   ·rw[e]at h;simp at h
   ·exact((I i a h).2).later (Q j)
  refine(q.one a Y (ab a (aR h)) ad (by omega)).mono ?_;rintro e w' ⟨t,rfl,u⟩;obtain⟨s,f,L⟩:=u.out;have y:=KE self h d;rw[H]at y;simp only[dS]at y;have P:bG (mm db bg sv pv lv) w w':=j.trans s λb X k=>by
   rcases m b k with e|e
   ·exact e
   ·omega
  refine⟨t,rfl,λag=>⟨P,?_⟩,λae=>⟨P,?_⟩⟩
  ·rw[ag]at f;obtain⟨d2,r⟩:=gi.1 f.symm;obtain⟨al,V,U,ap,aq,ar,ao,an,ai,aj⟩:=L d2 r;refine⟨d2,by rw[y,r],al,V,U,ap,aq,ar,ao,an,ai,λk J=>?_⟩;rcases aj k J with e|e
   ·exact m k e
   ·have:=j.size;exact am (by omega)
  ·rw[ae]at f;refine KC self (i:=i+1) ?_;rw[y];exact lG.1 (by rw[<-lJ,<-f];rfl)
 ·exact⟨bG.refl _ _,d,rfl,l,bg,bc,sd,sp,sv,pv,lv,G,λk J=>ak J⟩
 ·rintro e w' ⟨t,rfl,u⟩;refine⟨t,rfl,?_⟩;cases t
  ·obtain⟨s,f⟩:=u.out.2 rfl;refine⟨s,by rw[f];rfl,λg O=>?_⟩;rw[f]at O;cases O
  ·obtain⟨s,g,f,L⟩:=u.1 rfl;rw[bF (ay _)]at f;refine⟨s,by rw[f];rfl,λd2 r=>?_⟩;rw[f]at r;obtain rfl:=aG r;obtain⟨z,x,v,C,E,F,B,A,q,m⟩:=L;exact⟨z,x,v,C,E,F,B,A,q.more W,m⟩
end
theorem Gz(N:Nat):bJ (N+1) (cv 1 0 N)=0/\aV (N+1) (cv 1 0 N)=true/\sz (N+1) (cv 1 0 N)=0:=by
 have c:cu (N+1) (cv 1 0 N)=true:=by
  rw[<-aW];intro a b;have:a=((1,0,.empty),(none,0,0)):=by simpa [aF,cv]using b
  subst this;simp[cJ,qW]
 exact⟨bS.2 ⟨c,by simp[gI,cv],by simp[sz,cv]⟩,by simp[aV,cv],by simp[sz,cv]⟩
theorem CK:dZ ws nm (N+1) (cv 1 0 N) (1,0):=⟨λa=>by simp[cv]at a,λa=>by simp[cv]at a,λ_ _=>rfl⟩
theorem kL.numb{i:List Wd}{s:Tm (N+1)}{h:List (Tm (N+1))}(j:kL (N+1) ws nm room (d::i) (s::h)):kL (N+1) ws nm room ((1,0)::i) (cv 1 0 N::h):=by
 obtain⟨f,g,k,l,m,n,o,p⟩:=j;obtain⟨q,r,u⟩:=Gz N;refine⟨⟨by simpa using f.1,λc t e b a=>?_⟩,?_,λe a=>?_,?_,m,n,o,p⟩
 ·cases c with
  | zero=>
   simp only[dl,ir]at b a;subst b a;exact CK
  | succ c=>exact f.2 (c+1) t e (by simpa using b) (by simpa using a)
 ·simp only[bK]at g ⊢;rw[nw (by decide),nJ];exact(fK.1 g).2.1
 ·rcases co.1 a with rfl|a
  ·exact⟨q,r⟩
  ·exact k e (b8 _ a)
 ·simp only[bz,di]at l ⊢;have:=(fH (N+1) s).1;omega
theorem kL.turned{v:Wd}{s x:Tm (N+1)}{ms:List (Tm (N+1))}(o:kL (N+1) ws nm room (d::vs++ [v]) (s::ms++ [x]))(g:vs.length=ms.length):kL (N+1) ws nm room (v::vs) (x::ms):=by
 obtain⟨h,i,w,y,z,A,B,C⟩:=o;refine⟨⟨by simp[g],λe D f c a=>?_⟩,?_,λf a=>w f ?_,?_,z,A,B,C⟩
 ·cases e with
  | zero=>
   simp only[dl,ir]at c a;subst c a;exact h.2 (vs.length+1) v x (by simp) (by simp[g])
  | succ e=>
   simp only[dy]at c a;have p:=(aZ.1 c).1;have q:=(aZ.1 a).1;exact h.2 (e+1) D f (by rw[fJ,dy,dM p];exact c) (by rw[fJ,dy,dM q];exact a)
 ·simp only[fJ,bK,lB,List.flatMap_nil,eD]at i ⊢;obtain⟨_,u,_⟩:=fK.1 i;obtain⟨k,l,m⟩:=fK.1 u;exact fK.2 ⟨l,k,λj r b t n=>m b t j r n.symm⟩
 ·rcases co.1 a with rfl|a
  ·simp
  ·simp[a]
 ·simp only[fJ,bz,ft,di,nM,dz,List.sum_nil]at y ⊢;have:=(fH (N+1) s).1;omega
theorem sK(w:ah)(c:Nat)(a b:Int):ci (λq=>q=c) w (vg w c a b):=(bH w c 5 (ae a)).trans (bH _ c 6 (ae b)) λ_ _ e=>e
theorem L5(w:ah)(c:Nat)(a b:Int):(vg w c a b).heap.size=w.heap.size:=by simp[vg,World.setCell]
theorem iD(a:ci S w w'):bG S w w':=⟨a.os,a.tape,a.output,a.size,a.block⟩
theorem jT(a:bG S w w'):ci S w w':=⟨a.os,a.tape,a.output,a.size,a.block⟩
section
variable {base pb:Nat} {name:aq} {room:Int} {N:Nat} {s:Tm (N+1)} {ms:List (Tm (N+1))} {xs:List (Wd×Tm (N+1))} {nk:Nat} {M:aU} {w:ah} {ws:List Wd} {nm:bj} {sv:Wd} {vs:List Wd} {ma:aw} {mc:Nat} {Mh:aU}
theorem ku.keptBox{v:Wd}(h:ku Mh ma vs mc w)(i:Mh pb):ku Mh ma vs mc (vg w pb v.1 v.2):=by
 rcases h with a|⟨d,j,e,f,b,c,g⟩
 ·exact ak a
 ·exact am ⟨d,j,e,f,b,((sK w pb v.1 v.2).block d (aN.1 c).1 λa=>b (by rw[a];exact i)).trans c,g⟩
theorem dY.word{mv:ax}{v:Wd}(a:dY base (PL pb name sv mv) room ws nm M w):dY base (PL pb name v mv) room ws nm M (vg w pb v.1 v.2):=a.turn (sK w pb v.1 v.2) λtv lv mp b=>by
 unfold vg World.setCell;simp[bQ,b]
theorem cU.numb(a:cU base pb name room (N+1) s ms [] nk M w ws nm sv vs ma mc Mh):cU base pb name room (N+1) (cv 1 0 N) ms [] nk M (vg w pb 1 0) ws nm (1,0) vs ma mc Mh/\ci M w (vg w pb 1 0):=by
 obtain⟨d,f⟩:=a.box0;have c:=a.has;simp only[dz,eD]at c;refine⟨⟨a.heap.word (v:=(1,0)),a.mail.keptBox (v:=(1,0)) d,?_,a.len,a.names,a.inM,a.mailM⟩,(sK w pb 1 0).mono λb e=>?_⟩
 ·simp only[dz,eD];exact c.numb
 ·rw[e];exact a.inM pb d
theorem cU.turned{v:Wd}{x:Tm (N+1)}(a:cU base pb name room (N+1) s ms [(v,x)] nk M w ws nm sv vs ma mc Mh):cU base pb name room (N+1) x ms [] nk M (vg w pb v.1 v.2) ws nm v vs ma mc Mh/\ci M w (vg w pb v.1 v.2):=by
 obtain⟨d,f⟩:=a.box0;have c:=a.has;simp only[bz,dz]at c;refine⟨⟨a.heap.word,a.mail.keptBox d,?_,a.len,a.names,a.inM,a.mailM⟩,(sK w pb v.1 v.2).mono λb e=>?_⟩
 ·simp only[dz,eD];exact c.turned a.len
 ·rw[e];exact a.inM pb d
theorem cU.cells56(e:cU base pb name room (N+1) s ms xs nk M w ws nm sv vs ma mc Mh):(∃a,ai w pb 5 (ae a))/\(∃a,ai w pb 6 (ae a))/\∀j,w.frozen? ⟨pb,j,none⟩=false:=by
 obtain⟨i,g,h,f,_⟩:=e.heap.box;obtain⟨_,b,c,_,d,_⟩:=PL.cells f;exact⟨⟨_,b⟩,⟨_,c⟩,d⟩
def PI(base pb:Nat)(name:aq)(room:Int)(N:Nat)(s:Tm (N+1))(ms:List (Tm (N+1)))(x:Tm (N+1))(nk:Nat)(M:aU)(w:ah)(t:Bool)(w':ah):Prop:=
 t=decide ((ms.map (sz (N+1))).sum+sz (N+1) x<=room)/\ci M w w'/\∃a i f g h d e c,cU base pb name room (N+1) a ms [] (nk+402) (λb=>M b\/w.heap.size<=b) w' i f g h d e c/\(t=true->a=x)/\(t=false->aH (N+1) a (N+1) s=true)
theorem yT{x:Tm (N+1)}{ms:List (Tm (N+1))}(a:bJ (N+1) x=0)(b:aV (N+1) x=true):tF (N+1) x room (cv 1 0 N::ms)=if (ms.map (sz (N+1))).sum+sz (N+1) x<=room then 0 else 6:=by
 unfold tF;rw[if_neg (by simp[a]),if_neg (by simp[b])];simp only[bz,di,(Gz N).2.2,Int.zero_add]
theorem cU.become(k:cU base pb name room (N+1) s ms [] nk M w ws nm sv vs ma mc Mh)(x:Tm (N+1))(az:In w.heap.size w (N+1) x)(L:cE (λb=>¬M b) (N+1) x)(E:bJ (N+1) x=0)(af:aV (N+1) x=true)(m:∀b,M b->b<w.heap.size)(a2:nk<=93000)(B:ms.length<=999)(a1:base<=w.heap.size):au 180 #[aC pb,.agg (bf x)] w λe w'=>∃t,e=.returned (.bool t)/\Hid (PI base pb name room N s ms x nk M w t w'):=by
 obtain⟨an,ao⟩:=k.box0;have a0:M pb:=k.inM pb an;have u:=k.front;have P:=u.2.2.1 s (by simp);have ax:(ms.map (sz (N+1))).sum+sz (N+1) s<=room:=by
  have ae:=u.2.2.2.1;have aZ:=u.2.2.2.2.1;simp only[bz,di]at ae;omega
 refine Bw x.1.1 x.1.2.1 x.1.2.2 x.2.1.1 x.2.2.length x.2.1.2 pb w (λT U V sa sl sc f=>∃y0:Tm (N+1),(T=y0.1.1/\U=y0.1.2.1/\V=y0.1.2.2/\sa=y0.2.1.1/\sl=y0.2.2.length/\sc=y0.2.1.2)/\In f.heap.size f (N+1) y0/\cE (λa=>w.heap.size<=a) (N+1) y0/\aH (N+1) y0 (N+1) s=true) (λ_ _ _ _=>True) (PI base pb name room N s ms x nk M w) ?_ ?_ ?_
 ·intro f d;refine((k.later d).state (by omega)).mono ?_;rintro e w' ⟨aW,rfl,o⟩;exact⟨_,_,_,_,_,_,rfl,o.1,aW,⟨rfl,rfl,rfl,rfl,rfl,rfl⟩,o.2.1,o.2.2.1.mono λa O=>by have:=d.size;omega,o.2.2.2⟩
 ·intro f d;obtain⟨ad,b,c⟩:=(k.later d).cells56;exact⟨ad,b,c,ao⟩
 ·rintro T U V sa sl sc aY j aO aP ⟨y0,⟨rfl,rfl,rfl,rfl,rfl,rfl⟩,Q,R,q⟩ D r a3 a4 p;have a6:=r.size;obtain⟨ai,I⟩:=(k.later r).numb;have a8:=L5 j pb 1 0;have H:ci M w (vg j pb 1 0):=(bA r M).trans I λ_ _ e=>e;have aA:In (vg j pb 1 0).heap.size (vg j pb 1 0) (N+1) x:=az.kee (iD H) L;have ap:=ai.put x aA L (gG E) (λb h=>by have:=m b h;omega) (by omega) B (by omega);refine ap.mono ?_;rintro e w' ⟨W,rfl,Y⟩;obtain⟨aT,aL,ba,aR,aG,aJ,aa,i,n⟩:=Y;have F:=yT (room:=room) (ms:=ms) E af;have K:ci M w w':=H.trans n λ_ _ e=>e;have a7:=n.size;refine⟨W,_,rfl,⟨?_,?_,i.cells56.1,i.cells56.2.1,i.cells56.2.2⟩,trivial,?_,?_⟩
  ·exact(n.block aO (aN.1 p.1).1 λa=>by have:=m _ a;omega).trans p.1
  ·exact(n.block aP (aN.1 p.2.1).1 λa=>by have:=m _ a;omega).trans p.2.1
  ·intro g f d;rw[if_pos g]at i;obtain⟨z,v⟩:=(i.later d).turned;rw[F]at g;have ag:(ms.map (sz (N+1))).sum+sz (N+1) x<=room:=by
    by_cases a:(ms.map (sz (N+1))).sum+sz (N+1) x<=room
    ·exact a
    ·rw[if_neg a]at g;cases g
   refine⟨by simp[ag],(K.trans (bA d M) λ_ _ e=>e).trans v λb h a=>?_,x,aT,aL,W,aR,aG,aJ,aa,z.mono (λb a=>?_) (by omega),λ_=>rfl,λa=>by cases a⟩
   ·rcases a with a|a
    ·exact a
    ·omega
   ·rcases a with a|a
    ·exact ak a
    ·exact am (by omega)
  ·intro g f aQ d a5 aq;rw[if_neg g]at i;have ah:¬(ms.map (sz (N+1))).sum+sz (N+1) x<=room:=λa=>g (by rw[F,if_pos a]);have al:=(i.inside.later d);have aw:=d.size;have aF:=In.offB R Q;have av:=D.size;have A:bJ (N+1) y0=0/\aV (N+1) y0=true:=⟨(bN q).trans P.1,(cF _ _ _ _ q).trans P.2⟩;have aB:In j.heap.size j (N+1) y0:=(Q.below D).mono av;have S:cE (λb=>¬M b) (N+1) y0:=R.mono λa O l=>by have:=m a l;omega
   have aD:In w'.heap.size w' (N+1) y0:=(aB.kee (iD I) S).kee (iD n) S;have aE:In f.heap.size f (N+1) y0:=(aD.below d).mono aw;have G:=yT (room:=room) (ms:=ms) A.1 A.2;have ay:=kV _ _ _ _ q;rw[if_pos (by rw[ay];exact ax)]at G;refine(al.put y0 aE (aF.mono λa O l=>?_) (gG A.1) (λb h=>by have:=h.2;omega) (by omega) B (by omega)).mono ?_
   ·rcases l.1 with l|l
    ·have:=m a l;omega
    ·omega
   ·rintro e bc ⟨X,rfl,Z⟩;obtain⟨aU,aM,bb,aS,aI,aK,ab,y,J⟩:=Z;rw[if_pos G]at y;refine⟨X,_,rfl,λa9 aj=>(J.block aQ aq λa=>by have:=a.2;omega).trans aj,y.cells56,λaX C=>?_⟩;have ar:=y.kept (jT C) λb a _ e=>by
     rcases a with a|a
     ·have:=a.2;omega
     ·omega
    obtain⟨z,v⟩:=ar.turned;refine⟨by simp[ah],?_,y0,aU,aM,X,aS,aI,aK,ab,z.mono (λb a=>?_) (by omega),λa=>(by cases a),λ_=>q⟩
    ·refine((((K.trans (bA d M) λ_ _ e=>e).trans J λb h a=>?_).trans (jT C) λb h a=>?_)).trans v λb h a=>?_
     ·rcases a.1 with a|a
      ·exact a
      ·omega
     ·omega
     ·rcases a with a|a
      ·rcases a.1 with a|a
       ·exact a
       ·omega
      ·omega
    ·rcases a with a|a
     ·rcases a.1 with a|a
      ·exact ak a
      ·exact am (by omega)
     ·exact am (by omega)
end
theorem fV{x:Tm (n+1)}(e:bJ (n+1) x=0){y:Tm n}(a:y∈x.2.2):bJ n y=0:=by
 obtain⟨f1,f2,f3⟩:=bS.1 e;have c:aJ ⟨n+1,x⟩:=aW.2 f1;have g:=oV c a;have d:=eW (bP n x) (c (bP n x) (by simp[aF,bP]));have b:x.1.1=4:=by
  by_cases b:x.1.1=4
  ·exact b
  ·have:x.2.2=[]:=bZ (d.2.2.2.2 b);rw[this]at a;cases a
 have f:=vb (λy=>1+sz n y) (λy=>by have:=(fH n y).1;omega) x.2.2 y a;simp only[sz,if_pos b]at f3
 exact bS.2 ⟨aW.1 (br n x y c a),by omega,by
  have h:1+sz n y<=(x.2.2.map λy=>1+sz n y).sum:=f.1
  omega⟩
theorem vz{x:Tm (n+1)}(a:bJ (n+1) x=0)(i:Nat){y:Tm n}(b:x.2.2[i]?=some y):bJ n y=0:=fV a (aR b)
theorem rG(c:n<=N)(x:Tm (n+1))(a:bJ (N+1) (bi (N+1) (n+1) x)=0):bJ (n+1) x=0:=by
 have e:aJ ⟨n+1,x⟩:=λb d=>(aW.2 (bS.1 a).1) b (by rw[od N n c x];exact d);rw[<-bN (fQ (N+1) (n+1) (by omega) x e)];exact a
def qI{n:Nat}(c:Cl (n+1)):Prop:=bJ (n+1) c.1.1=0/\bJ (n+1) c.1.2.1=0/\bJ (n+1) c.1.2.2=0/\c.2.2.length<=8/\∀a∈c.2.2,OA a
theorem GC{p:List (Bh (n+1))}(d:oI n p=0):lj (n+1) p=true/\∀b∈p,b.2.2.length<=6/\∀c∈b.2.2,qI c:=by
 unfold oI at d;cases e:lj (n+1) p with
 | false=>rw[e]at d;cases d
 | true=>
  rw[e,if_pos rfl]at d;refine⟨rfl,λb l=>?_⟩;unfold lj at e;simp only[aO,cX]at e;have h:=e.2 b l;unfold xX at h;simp only[aO,cX,cT]at h;refine⟨by omega,λc m=>?_⟩;have i:=h.2 c m;unfold vC at i;simp only[aO,cX,cT]at i;have o:bJ (n+5) (eO n b)=0:=fV d (by simp only[cW,dR];exact b8 _ (jA l));have f:bJ (n+4) (eA n c)=0:=fV o (by simp only[eO,dR];exact b8 _ (b8 _ (jA m)));have s:bJ (n+3) (dR (n+2) (c.2.2.map (cN n)))=0:=vz f 3 rfl;refine⟨rG (N:=n+2) (by omega) _ (vz f 1 rfl),rG (N:=n+2) (by omega) _ (vz f 2 rfl),rG (N:=n+2) (by omega) _ (vz f 4 rfl),by omega,λj k=>?_⟩;have g:bJ (n+2) (cN n j)=0:=fV s (by simp only[dR];exact jA k);refine⟨i.2 j k,λr=>?_,λq=>?_⟩
  ·rcases r with a|a
   ·exact fV g (by simp[cN,a,dR])
   ·exact fV g (by simp[cN,a,dR])
  ·rcases q with a|a
   ·exact fV g (by simp[cN,a,dR])
   ·exact fV g (by simp[cN,a,dR])
section
variable {base db:Nat} {self:Int} {n D k:Nat} {nx:Int} {d:Dg} {w:ah} {l:List (Tm (D+1))} {bg bc:Nat} {sd:List (Int×Tm (D+1+n+1))} {sp:List (Int×aq×Tm (D+1+n+1))} {sv pv lv:ax}
theorem eJ.kept(a:eJ base db self n D k nx d w l bg bc sd sp sv pv lv){S:aU}{w':ah}(i:bG S w w')(m:∀b,base<=b->b<w.heap.size->¬S b):eJ base db self n D k nx d w' l bg bc sd sp sv pv lv:=by
 have Q:=i.size;obtain⟨L,B,v,p,R⟩:=a.own;have s:∀{g:Nat}{y:Tm g},In w.heap.size w g y->cE (My base db bg sv pv lv) g y->In w'.heap.size w' g y:=λG H=>G.kee (i.mono (T:=λb=>S b/\b<w.heap.size) λb E f=>⟨f,E⟩) (H.mono λf h (e:S f/\f<w.heap.size)=>m f h.1 e.2 e.1);have u:∀{q:TypeId}{e g:Nat}{x:ax}{z:dG},w.ownsRow base q e x g z->w'.ownsRow base q e x g z:=λ{q e g x z} t=>bB t i λf h o=>by
  obtain⟨N,F⟩:=eI t f h;refine m f ?_ (aN.1 F).1 o;rcases t.2 with⟨r,_⟩|⟨C,cap,O,r,P,_⟩
  ·rw[r]at h;cases h
  ·rw[r]at h;have:C=f:=aG h;omega
 refine⟨(i.block db a.lt (m db B a.lt)).trans a.box,⟨L,B,v,by omega,by omega⟩,a.bnd,a.tells,λJ M I=>?_,λK=>?_,u a.sRow,u a.pRow,u a.lRow,a.sIs,a.pIs,λe o=>?_,λe o=>?_,a.apart,a.few⟩
 ·obtain⟨j,b,c⟩:=a.row J M I;exact⟨j.kee i p (m bg v p),s b c,c⟩
 ·have A:=a.free K;unfold World.frozen? at A ⊢;rw[i.block bg p (m bg v p)];exact A
 ·obtain⟨j,b,c⟩:=a.sIn e o;exact⟨j,s b c,c⟩
 ·obtain⟨j,b,c⟩:=a.pIn e o;exact⟨j,s b c,c⟩
theorem eJ.low(b:eJ base db self n D k nx d w l bg bc sd sp sv pv lv):∀q,mm db bg sv pv lv q->q<w.heap.size:=by
 have c:∀{f:TypeId}{i g q:Nat}{e:ax}{h:dG},w.ownsRow base f i e g h->e.ownBlock=some q->q<w.heap.size:=λ{f i g q e h} m a=>by
  obtain⟨o,j⟩:=eI m q a;exact(aN.1 j).1
 intro q a;rcases a with rfl|rfl|a|a|a
 ·exact b.lt
 ·exact b.own.2.2.2.1
 ·exact c b.sRow a
 ·exact c b.pRow a
 ·exact c b.lRow a
def PP(u t:Nat)(name:aq)(room:Int)(s:Tc)(ms:List Tc)(q:Nat)(M:aU)(base db:Nat)(self:Int)(n D:Nat)(nx:Int)(c:Cl (n+1))(b:List Tc)(S:aU)(w:ah)(f:Int)(w':ah):Prop:=
 f=(fG room self nx (cn 13 s) (cn 13 s) (ms.map (cn 13)) c b).fate/\bG (λa=>M a\/S a) w w'/\(∃j z r e y o p k,cU u t name room 13 j ms [] (q+402) (λa=>M a\/w.heap.size<=a) w' z r e y o p k/\cn 13 j=(fG room self nx (cn 13 s) (cn 13 s) (ms.map (cn 13)) c b).state)/\
  ((f=0\/f=1)->∃d m g l v x e i h,eJ base db self n D 8 nx d w' m g l v x e i h/\d.sends=(fG room self nx (cn 13 s) (cn 13 s) (ms.map (cn 13)) c b).sends/\d.spawns=(fG room self nx (cn 13 s) (cn 13 s) (ms.map (cn 13)) c b).spawns/\d.links=(fG room self nx (cn 13 s) (cn 13 s) (ms.map (cn 13)) c b).links/\∀a,mm db g e i h a->¬(M a\/w'.heap.size<=a))
theorem Px{ms:List Tc}(a:∀y∈ms,bJ 13 y=0):((ms.map (cn 13)).map (sz 13)).sum=(ms.map (sz 13)).sum:=by
 rw[jy];congr 1;exact lD λy b=>Ga (a y b)
theorem Et{Q I:Nat}{name:aq}{room:Int}{s:Tc}{ms:List Tc}{P:Nat}{M:aU}{ws:List Wd}{nm:bj}{an:Wd}{vs:List Wd}{ma:aw}{ag:Nat}{Mh:aU}{b:List Tc}(a5:cU Q I name room 13 s ms [] P M w ws nm an vs ma ag Mh)(T:eJ base db self n D 0 nx d w l bg bc sd sp sv pv lv)(aF:d=⟨b,nx,[],[],[],false⟩)(c:Cl (n+1))(a0:iP (n+1) base w c)(br:qI c)(a6:1<=self/\self<=99)(L:∀q,M q->q<base)(bO:Q<=base)(bq:P<=93000)(bm:ms.length<=999):au 156 #[aC I,.agg (fF (n+1) c).toArray,aC db] w λe w'=>∃f,e=.returned (ae f)/\PP Q I name room s ms P M base db self n D nx c b (mm db bg sv pv lv) w f w':=by
 obtain⟨bL,bM,aX,bf,bh⟩:=br;have aI:=T.own.2.2.2.2;have bo:∀{h:ah},bG (mm db bg sv pv lv) w h->Below base w h:=λm=>m.below aI λb E q=>by
  have:=T.high b q;omega
 have aK:∀{h:ah},bG (mm db bg sv pv lv) w h->cU Q I name room 13 s ms [] P M h ws nm an vs ma ag Mh:=λm=>a5.kept (N:=12) (jT m) λb E _ q=>by
  have:=L b E;have:=T.high b q;omega
 have aG:∀{h:ah},bG (mm db bg sv pv lv) w h->bG (λq=>M q\/mm db bg sv pv lv q) w h:=λm=>m.mono λq _ a=>am a;have bp:∀g∈ms,bJ 13 g=0:=λg bx=>(a5.front.2.2.1 g (b8 _ bx)).1
 refine Cd (D+1+n) c.1.1.1.1 c.1.1.1.2.1 c.1.1.1.2.2 c.1.1.2.1.1 c.1.1.2.2.length c.1.1.2.1.2 c.1.2.1.1.1 c.1.2.1.1.2.1 c.1.2.1.1.2.2 c.1.2.1.2.1.1 c.1.2.1.2.2.length c.1.2.1.2.1.2 c.2.1.1 c.2.2.length c.2.1.2 c.1.2.2.1.1 c.1.2.2.1.2.1 c.1.2.2.1.2.2 c.1.2.2.2.1.1 c.1.2.2.2.2.length c.1.2.2.2.1.2 I db w
  (λh=>bG (mm db bg sv pv lv) w h/\∃i x v u A B C z y,qS self c.2.2 d=some i/\eJ base db self n D 8 nx i h x v u A B C z y)
  (λt g S=>∃h i x v u A B C z y,bG (mm db bg sv pv lv) w h/\qS self c.2.2 d=some i/\eJ base db self n D 8 nx i h x v u A B C z y/\ap h S/\In S.heap.size S (D+1+n+1) g/\cE (λq=>h.heap.size<=q) (D+1+n+1) g/\t=(tQ i.b self (n+1) c.1.2.2).isSome/\∀r,tQ i.b self (n+1) c.1.2.2=some r->bJ _ g=0/\aV _ g=true/\cn _ g=r)
  (PP Q I name room s ms P M base db self n D nx c b (mm db bg sv pv lv) w) ?_ ?_ ?_ ?_
 ·intro h Y;refine((T.later Y).all c.2.2 c.2.1.1 c.2.1.2 ?_ bh bf a6).mono ?_
  ·rcases a0.2.2 with e|⟨q,o,e,a,a1⟩
   ·exact ak e
   ·exact am ⟨q,o,e,a,λaQ aT a3=>⟨λa8 bH bn=>(Y.cell (p:=⟨q,o+aQ*11+a8,none⟩) (aY a aI)).trans ((a1 aQ aT a3).1 a8 bH bn),((a1 aQ aT a3).2).later (Y.mono aI)⟩⟩
  ·rintro e w' ⟨t,rfl,aA⟩;obtain⟨ao,J,aR⟩:=aA.out;have m:bG (mm db bg sv pv lv) w w':=(aM Y _).trans ao λ_ _ e=>e;refine⟨t,rfl,λq bR a a4=>(ao.block q (aN.1 a4).1 λk=>by have:=T.low q k;omega).trans a4,λG=>⟨m,?_⟩,λaa=>?_⟩
   ·rw[G]at J;obtain⟨d2,a2⟩:=gi.1 J.symm;obtain⟨bA,be,bd,bE,bF,R,bC,bB,bz,_⟩:=aR d2 a2;exact⟨d2,bA,be,bd,bE,bF,R,bC,bB,a2,bz⟩
   ·rw[aa]at J;have Z:qS self c.2.2 d=none:=lG.1 (by rw[<-lJ,<-J];rfl);rw[aF]at Z;have j:fG room self nx (cn 13 s) (cn 13 s) (ms.map (cn 13)) c b=⟨cn 13 s,2,[],[],[],cn 13 s,ms.map (cn 13)⟩:=by simp[fG,Z]
    refine⟨by rw[j],aG m,⟨s,ws,nm,an,vs,ma,ag,Mh,(aK m).mono (N:=12) (λq a=>ak a) (by omega),by rw[j]⟩,λk=>?_⟩;omega
 ·rintro h ⟨m,i,x,v,u,A,B,C,z,y,F,K⟩;obtain⟨t1,t2⟩:=K.told (self:=self) c.1.2.2 aX;refine(K.value c.1.2.2 (a0.1.2.2.below (bo m)) aX a6 h (aE _ _)).mono ?_;rintro e w' ⟨g,rfl,bb⟩;obtain⟨y1,y2,aS,W⟩:=bb;exact⟨g,_,rfl,h,i,x,v,u,A,B,C,z,y,m,F,K,y1,y2,aS,t1,λr G=>t2 g r G W⟩
 ·rintro g S aB ⟨h,i,x,v,u,A,B,C,z,y,m,F,K,y1,_,_,W,_⟩ E;have Z:tQ i.b self (n+1) c.1.2.2=none:=lG.1 (by rw[<-lJ,<-W];rfl);rw[aF]at F;have j:fG room self nx (cn 13 s) (cn 13 s) (ms.map (cn 13)) c b=⟨cn 13 s,2,[],[],[],cn 13 s,ms.map (cn 13)⟩:=by simp[fG,F,Z]
  have U:bG (mm db bg sv pv lv) w aB:=(m.trans (aM y1 (λ_=>False)) λ_ _ e=>e.elim).trans (aM E (λ_=>False)) λ_ _ e=>e.elim;refine⟨by rw[j],aG U,⟨s,ws,nm,an,vs,ma,ag,Mh,(aK U).mono (N:=12) (λq a=>ak a) (by omega),by rw[j]⟩,λk=>?_⟩;omega
 ·rintro g S aB ⟨h,i,x,v,u,A,B,C,z,y,m,F,K,y1,y2,aS,W,bI⟩ E;obtain⟨r,G⟩:=gi.1 W.symm;obtain⟨az,bK,ba⟩:=bI r G;rw[aF]at F;have bQ:=m.size;have bP:=y1.size;have bs:=E.size;have U:bG (mm db bg sv pv lv) w aB:=(m.trans (aM y1 (λ_=>False)) λ_ _ e=>e.elim).trans (aM E (λ_=>False)) λ_ _ e=>e.elim;have aP:aJ ⟨D+1+n+1,g⟩:=aW.2 (bS.1 az).1;have aO:gI (D+1+n+1) g<13:=by have:=(bS.1 az).2.1;omega
  have ad:=jU 13 (D+1+n+1) g aP aO;have bt:=tC 13 (D+1+n+1) g _ _ aP aO ((y2.below E).mono bs);have bv:=uY 13 (D+1+n+1) g _ aP aO aS;have bu:(bi 13 (D+1+n+1) g).2.2.length=g.2.2.length:=by simp[bi]
  have a7:cn 13 (bi 13 (D+1+n+1) g)=r:=(gA ad).trans ba;have bw:sz 13 (bi 13 (D+1+n+1) g)=sz 13 r:=by
   rw[kV _ _ _ _ ad,<-ba,Ga az]
  have aZ:=(aK U).become (N:=12) (bi 13 (D+1+n+1) g) bt (bv.mono λq a k=>by have:=L q k;omega) ((bN ad).trans az) ((cF _ _ _ _ ad).trans bK) (λq k=>by have:=L q k;omega) bq bm (by omega);rw[bu]at aZ;refine aZ.mono ?_;rintro e w' ⟨t,rfl,aA⟩;obtain⟨ao,J,ar,ax,al,R,av,af,ai,X,aR,a9,bD⟩:=aA;have O:t=decide (((ms.map (cn 13)).map (sz 13)).sum+sz 13 r<=room):=by
   rw[Px bp,<-bw];exact ao
  have aH:bG (λq=>M q\/mm db bg sv pv lv q) w w':=(aG U).trans (iD J) λq _ a=>ak a
  have aD:cU Q I name room 13 ar ms [] (P+402) (λq=>M q\/w.heap.size<=q) w' ax al R av af ai X:=aR.mono (N:=12) (λq a=>by
   rcases a with a|a
   ·exact ak a
   ·exact am (by omega)) (ay _)
  have H:eJ base db self n D 8 nx i w' x v u A B C z y:=((K.later y1).later E).kept (iD J) λq a _ k=>by
   have:=L q k;omega
  refine⟨t,rfl,λaa=>?_,λab=>⟨i.stops,aj H.box 6,λaL=>?_,λaL=>?_⟩⟩
  ·rw[aa]at O;have V:¬((ms.map (cn 13)).map (sz 13)).sum+sz 13 r<=room:=of_decide_eq_false O.symm;have j:fG room self nx (cn 13 s) (cn 13 s) (ms.map (cn 13)) c b=⟨cn 13 s,3,[],[],[],cn 13 s,ms.map (cn 13)⟩:=by
    unfold fG;simp only[F,G];rw[if_neg V]
   refine⟨by rw[j],aH,⟨ar,ax,al,R,av,af,ai,X,aD,by rw[j];exact gA (bD aa)⟩,λk=>?_⟩;omega
  ·rw[ab]at O;have V:((ms.map (cn 13)).map (sz 13)).sum+sz 13 r<=room:=iv O.symm;have j:fG room self nx (cn 13 s) (cn 13 s) (ms.map (cn 13)) c b=⟨cn 13 s,1,i.sends,i.spawns,i.links,r,ms.map (cn 13)⟩:=by
    unfold fG;simp only[F,G];rw[if_pos V,aL];rfl
   refine⟨by rw[j],aH,⟨ar,ax,al,R,av,af,ai,X,aD,by rw[j,a9 ab];exact a7⟩,λ_=>⟨i,x,v,u,A,B,C,z,y,H,by rw[j],by rw[j],by rw[j],λq a k=>?_⟩⟩;have bk:=H.high q a;have bl:=H.low q a;rcases k with k|k
   ·have:=L q k;omega
   ·omega
  ·rw[ab]at O;have V:((ms.map (cn 13)).map (sz 13)).sum+sz 13 r<=room:=iv O.symm;have j:fG room self nx (cn 13 s) (cn 13 s) (ms.map (cn 13)) c b=⟨cn 13 s,0,i.sends,i.spawns,i.links,r,ms.map (cn 13)⟩:=by
    unfold fG;simp only[F,G];rw[if_pos V,aL];rfl
   refine⟨by rw[j],aH,⟨ar,ax,al,R,av,af,ai,X,aD,by rw[j,a9 ab];exact a7⟩,λ_=>⟨i,x,v,u,A,B,C,z,y,H,by rw[j],by rw[j],by rw[j],λq a k=>?_⟩⟩;have bk:=H.high q a;have bl:=H.low q a;rcases k with k|k
   ·have:=L q k;omega
   ·omega
end
def QI{n:Nat}(c:Cl (n+1)):ax:=.agg #[ae c.1.1.1.1,ae c.1.1.1.2.1,ag c.1.1.1.2.2,af c.1.1.2.1.1 c.1.1.2.2.length c.1.1.2.1.2,ae c.1.2.1.1.1,ae c.1.2.1.1.2.1,ag c.1.2.1.1.2.2,af c.1.2.1.2.1.1 c.1.2.1.2.2.length c.1.2.1.2.1.2,af c.2.1.1 c.2.2.length c.2.1.2,ae c.1.2.2.1.1,ae c.1.2.2.1.2.1,ag c.1.2.2.1.2.2,af c.1.2.2.2.1.1 c.1.2.2.2.2.length c.1.2.2.2.1.2]
def QP{N:Nat}(x:Tm (N+1)):List ax:=[ae x.1.1,ae x.1.2.1,ag x.1.2.2,af x.2.1.1 x.2.2.length x.2.1.2]
def Qn{N:Nat}(x:Tm (N+1)):ax:=.agg (bf x)
def DY{n N:Nat}(i:Nat)(y:Tm (N+1))(c:Cl (n+1))(a:aw)(len b:Nat):List ax:=ae i::(QP y++fF (n+1) c++ [af a len b])
def Hc:List ax:=[ae 0,ae 0,ae 0,ag ⟨#[]⟩,af none 0 0,ae 0,ae 0,ag ⟨#[]⟩,af none 0 0,ae 0,ae 0,ag ⟨#[]⟩,af none 0 0,af none 0 0,ae 0,ae 0,ag ⟨#[]⟩,af none 0 0,af none 0 0]
def QW{n N:Nat}(l:List (Cl (n+1)))(M L:Nat)(g:Nat->Nat->Bool)(R:Tm (N+1)->List (Tm (N+1))->bE)(r:Nat->Nat->aw->Nat->Nat->ah->bE)(w:ah)(e:Ending)(w':ah):Prop:=
 (e=.returned (.tuple #[.agg Hc.toArray,.bool false])/\Hid ((∀a d,a<M->d<L->g a d=false)/\ap w w'))\/
  ∃(a d:Nat)(p:Tm (N+1))(c:Cl (n+1))(k:aw)(len m:Nat),e=.returned (.tuple #[.agg (DY a p c k len m).toArray,.bool true])/\Hid (∃s q h i j,R s q h/\q[a]?=some p/\l[d]?=some c/\g a d=true/\(∀o f,o<a->f<L->g o f=false)/\(∀f,f<d->g a f=false)/\ap w h/\ap h i/\ap i j/\r a d k len m i j/\bG (λb=>b=w.heap.size) j w'/\w.heap.size<h.heap.size)
theorem results_cell_tmp{P:Program}{fn:Func}{a:Array ax}{j:Nat}{ty:TypeId}{p:Addr}{v x:ax}(c:fn.results= #[.cell i ty,.tmp j])(b:a.getD i undef=.pointer (some p))(d:(loadVar ty p).run P w=.ok v w)(e:a.getD j undef=x):(results fn a).run P w=.ok (.tuple #[v,x]) w:=by
 simp only[results,c];rw[<-e];rw[Array.getD_eq_getD_getElem?]at b;simp[b,asAddr,d]
theorem jc:(Tryz.prog.info? 237).map (·.size)=some 19:=by kernel_rfl
theorem F6:(Hc.toArray.all (·.oneCell'))=true:=all_oneCell_toArray λv a=>by
 simp only[Hc,co,gh,gj]at a;rcases a with rfl|rfl|rfl|rfl|rfl|rfl|rfl|rfl|rfl|rfl|rfl|rfl|rfl|rfl|rfl|rfl|rfl|rfl|rfl<;>rfl
theorem F7(i:Nat)(y:Tm (N+1))(c:Cl (n+1))(a:aw)(len d:Nat):((DY i y c a len d).toArray.all (·.oneCell'))=true:=all_oneCell_toArray λv b=>by
 have b:v∈[Value.int .i64 i,ae y.1.1,ae y.1.2.1,ag y.1.2.2,af y.2.1.1 y.2.2.length y.2.1.2,ae c.1.1.1.1,ae c.1.1.1.2.1,ag c.1.1.1.2.2,af c.1.1.2.1.1 c.1.1.2.2.length c.1.1.2.1.2,ae c.1.2.1.1.1,ae c.1.2.1.1.2.1,ag c.1.2.1.1.2.2,af c.1.2.1.2.1.1 c.1.2.1.2.2.length c.1.2.1.2.1.2,af c.2.1.1 c.2.2.length c.2.1.2,ae c.1.2.2.1.1,ae c.1.2.2.1.2.1,ag c.1.2.2.1.2.2,af c.1.2.2.2.1.1 c.1.2.2.2.2.length c.1.2.2.2.1.2,af a len d]:=b;simp only[co,gh,gj]at b;rcases b with rfl|rfl|rfl|rfl|rfl|rfl|rfl|rfl|rfl|rfl|rfl|rfl|rfl|rfl|rfl|rfl|rfl|rfl|rfl<;>rfl
theorem dP{b:Nat}{C:Array ax}(a:w.heap[b]?=some (.cells C t (0,0))):w.there b 0 C.size:=λj c=>by
 simp only[World.cell?,World.frozen?,a,cw];simp[c]
theorem eM(b:Nat):(cs:dG)->(o:Nat)->(w:ah)->bG (λq=>q=b) w (w.setCells b o cs)/\(w.setCells b o cs).heap.size=w.heap.size
 | [],_,w=>⟨bG.refl _ _,rfl⟩
 | v::cs,o,w=>by
  obtain⟨a,c⟩:=eM b cs (o+1) (w.setCell ⟨b,o,none⟩ v);rw[World.setCells];exact⟨(bM w b o v).trans a λ_ _ e=>e,c.trans (by simp[World.setCell])⟩
theorem BD(bg:Nat)(l:List (Cl (n+1)))(b3:aw)(L cj M:Nat)(w:ah)(D:Nat->Nat->Bool)(R:Tm (N+1)->List (Tm (N+1))->bE)(bh:Nat->Nat->aw->Nat->Nat->ah->bE)(cy:L<=1000000)(cz:M<=1000000)(b9:Hid (l.length=L))(b8:Hid (∀(i:Nat)(c:Cl (n+1)),l[i]?=some c->∃b o,b3=some ⟨b,o,none⟩/\b<w.heap.size/\∀(j:Nat)(r:ax),(fF (n+1) c)[j]?=some r->ai w b (o+i*13+j) r))(bu:Hid (∀W,ap w W->w.heap.size<W.heap.size->au 93 #[aC bg] W λe w'=>∃s:Tm (N+1),e=.returned (Qn s)/\Hid (ap W w'/\ ∀a7,ap w' a7->au 94 #[aC bg] a7 λe aZ=>∃ma b4 ys,e=.returned (af ma M b4)/\Hid (ys.length=M/\ap a7 aZ/\(∀(i:Nat)(y:Tm (N+1)),ys[i]?=some y->∃g o,ma=some ⟨g,o,none⟩/\g<aZ.heap.size/\∀(j:Nat)(r:ax),(QP y)[j]?=some r->ai aZ g (o+i*4+j) r)/\R s ys aZ))))(b7:Hid (∀s ys w0 W i j y c,R s ys w0->ap w0 W->ys[i]?=some y->l[j]?=some c->au 177 #[QI c,Qn s,Qn y] W λe w'=>∃a len bK,e=.returned (.tuple #[af a len bK,.bool (D i j)])/\Hid (ap W w'/\(D i j=true->bh i j a len bK W w')))):au 153 #[aC bg,af b3 L cj] w (QW l M L D R bh w):=by
 have bv:Hid (∃w0 k x,(w0=w.alloc x/\k=w.heap.size/\x=.cells #[ae 0,ae 0,ae 0,ag ⟨#[]⟩,af none 0 0,ae 0,ae 0,ag ⟨#[]⟩,af none 0 0,ae 0,ae 0,ag ⟨#[]⟩,af none 0 0,af none 0 0,ae 0,ae 0,ag ⟨#[]⟩,af none 0 0,af none 0 0] 237)/\ap w w0/\w0.heap[k]?=some x/\w.heap.size<w0.heap.size/\Hid (k=w.heap.size)):=⟨_,_,_,⟨rfl,rfl,rfl⟩,aT _ _,aI _ _,by simp,rfl⟩;go_enter func153,ntmps153;go_wp2_with fail;obtain⟨w0,d,x,⟨bb,bW,ba⟩,bM,bP,bV,bs⟩:=bv.out;rw[ba]at bb;rw[<-bb,<-bW];have aU:=av bM;have a4:=av bP;have bq:=av ba;have bn:=av bV;clear bb bW ba bM bP bV bv;refine(bu _ aU bn).mono ?_;rintro e a0 ⟨s,rfl,X⟩;unfold Qn;have a1:=av (aU.trans (X.1.mono aU.size));have ca:=av (aY bn X.1.size);have bp:=av X.2;have bz:Hid (∃O k,(O=a0.alloc (.cells (bf s) 54)/\k=a0.heap.size)/\ap a0 O/\O.heap[k]?=some (.cells (bf s) 54)):=⟨_,_,⟨rfl,rfl⟩,aT _ _,aI _ _⟩;have a5:Hid (a0.heap[d]?=some x):=(X.1.block d (aN.1 a4).1).trans a4;clear X bu a4 aU;go_upto_region 2 with fail;obtain⟨O,ay,⟨b0,bX⟩,ao,bQ⟩:=bz.out;rw[<-b0,<-bX];have a2:=av (a1.trans (ao.mono a1.size));have Z:Hid (O.heap[d]?=some x/\O.heap[ay]?=some (.cells (bf s) 54)):=⟨(ao.block d (aN.1 a5).1).trans a5,bQ⟩;have bo:=av (bp O ao);have cb:=av (aY ca ao.size);clear b0 bX ao bQ bz bp a5 a1;go_wp2_with fail;refine bo.mono ?_;rintro e U ⟨ma,b4,ys,rfl,E⟩;have Q:=av (a2.trans (E.2.1.mono a2.size));have cc:=av (aY cb E.2.1.size);have S:Hid (U.heap[d]?=some x/\U.heap[ay]?=some (.cells (bf s) 54)):=⟨(E.2.1.block d (aN.1 Z.1).1).trans Z.1,(E.2.1.block ay (aN.1 Z.2).1).trans Z.2⟩;have cd:=av E.1;have bB:=av E.2.2.1;have bt:=av E.2.2.2;clear E bo Z a2;go_wp2_with fail;go_loopw [18] (λi wr=>∃bd:Nat,bd<=M/\i=ae bd/\Hid (ap U wr/\∀a b,a<bd->b<L->D a b=false)) (λi _=>M-(intOf i).toNat)
 case atStart=>exact⟨0,aK _,rfl,aE _ _,λa b ce=>by omega⟩
 case round=>
  obtain⟨i,cA,rfl,A⟩:=hrel;by_cases cg:i<M;rotate_left
  ·obtain rfl:i=M:=by omega
   have K:Hid (wr.there d 0 19):=by
    have an:wr.heap[d]?=some x:=(A.1.block d (aN.1 S.1).1).trans S.1;rw[bq.out]at an;exact dP an
   go_upto_region 13 with fail;go_step;go_step;go_step;go_step;have B:Hid (∃wf,wf=wr.setCells d 0 Hc.toArray.toList/\Hid (wf.rangeAt d 0 Hc/\bG (λk=>k=d) wr wf)):=⟨_,rfl,World.rangeAt_setCells_same wr d 0 Hc K,(eM d _ 0 wr).1⟩;refine wpList_store_mid rfl 237 (.tmp 4) (.tmp 44) rfl d 0 Hc.toArray rfl rfl K jc F6 ?_;obtain⟨wf,ar,B⟩:=B.out;rw[<-ar];clear ar K;go_wp2_with fail;have a9:=run_loadVar_mid (P:=Tryz.prog) wf d 0 237 Hc _ B.1 underlying237 rfl jc;refine aB (v:=.tuple #[.agg Hc.toArray,.bool false]) (results_cell_tmp results153 rfl a9 rfl) rfl ?_;exact ak ⟨rfl,λa b bL T=>A.2 a b bL T,(Q.trans (A.1.mono Q.size)).trans (B.2.below (by have:=Q.size;have:=A.1.size;omega) λb T e=>by have:=bs.out;omega)⟩
  ·obtain⟨y,bc⟩:∃y,ys[i]?=some y:=⟨ys[i]'(by rw[cd.out];exact cg),aS _⟩;have bA:=av bc;obtain⟨g,o,rfl,cf,bj⟩:=bB.out i y bc;have f:∀(j:Nat)(r:ax),(QP y)[j]?=some r->ai wr g (o+i*4+j) r:=λj r bT=>(A.1.cell (p:=⟨g,o+i*4+j,none⟩) cf).trans (bj j r bT);have ck:ai wr g (o+i*4) (ae y.1.1):=f 0 _ rfl;have cl:ai wr g (o+i*4+1) (ae y.1.2.1):=f 1 _ rfl;have cm:ai wr g (o+i*4+2) (ag y.1.2.2):=f 2 _ rfl;have cn:ai wr g (o+i*4+3) (af y.2.1.1 y.2.2.length y.2.1.2):=f 3 _ rfl;have cB:(0:Int)<=(i:Int):=by omega
   have cC:(i:Int)<(M:Int):=by omega
   have bx:Hid (∃V k,(V=wr.alloc (.cells (bf y) 54)/\k=wr.heap.size)/\ap wr V/\V.heap[k]?=some (.cells (bf y) 54)):=⟨_,_,⟨rfl,rfl⟩,aT _ _,aI _ _⟩;clear f bj bc;go_wp2_with fail;obtain⟨V,aX,⟨b1,bY⟩,bN,bR⟩:=bx.out;rw[<-b1,<-bY];have Y:=av (A.1.trans (bN.mono A.1.size));have br:=av bR;have bC:=av A.2;clear b1 bY bN bR bx ck cl cm cn A bB;go_loopw [25] (λj wr=>∃be:Nat,be<=L/\j=ae be/\Hid (ap V wr/\∀b,b<be->D i b=false)) (λj _=>L-(intOf j).toNat)
   case atStart=>exact⟨0,aK _,rfl,aE _ _,λb ce=>by omega⟩
   case round=>
    obtain⟨j,bT,rfl,J⟩:=hrel;by_cases ch:j<L;rotate_left
    ·obtain rfl:j=L:=by omega
     have a3:Hid (ap U wr/\∀a b,a<i+1->b<j->D a b=false):=⟨Y.trans (J.1.mono Y.size),λa b bL T=>by
      by_cases e:a=i
      ·rw[e];exact J.2 b T
      ·exact bC a b (by omega) T⟩
     go_wp2_with fail;go_roundw
     case rel=>exact⟨i+1,by omega,by go_num,a3⟩
     case measure=>simp[intOf];omega
    ·obtain⟨c,a8⟩:∃c,l[j]?=some c:=⟨l[j]'(by rw[b9.out];exact ch),aS _⟩;obtain⟨q,lo,rfl,ci,bk⟩:=b8 j c a8;have bl:=av a8;have bi:=av (Q.trans (Y.mono Q.size));have b6:=av (bi.trans (J.1.mono bi.size));have f:∀(t:Nat)(r:ax),(fF (n+1) c)[t]?=some r->ai wr q (lo+j*13+t) r:=λt r aq=>(b6.cell (p:=⟨q,lo+j*13+t,none⟩) ci).trans (bk t r aq);have y0:ai wr q (lo+j*13) (ae c.1.1.1.1):=f 0 _ rfl;have y1:ai wr q (lo+j*13+1) (ae c.1.1.1.2.1):=f 1 _ rfl;have y2:ai wr q (lo+j*13+2) (ag c.1.1.1.2.2):=f 2 _ rfl;have cr:ai wr q (lo+j*13+3) (af c.1.1.2.1.1 c.1.1.2.2.length c.1.1.2.1.2):=f 3 _ rfl;have cs:ai wr q (lo+j*13+4) (ae c.1.2.1.1.1):=f 4 _ rfl;have ct:ai wr q (lo+j*13+5) (ae c.1.2.1.1.2.1):=f 5 _ rfl;have cu:ai wr q (lo+j*13+6) (ag c.1.2.1.1.2.2):=f 6 _ rfl;have cv:ai wr q (lo+j*13+7) (af c.1.2.1.2.1.1 c.1.2.1.2.2.length c.1.2.1.2.1.2):=f 7 _ rfl;have cw:ai wr q (lo+j*13+8) (af c.2.1.1 c.2.2.length c.2.1.2):=f 8 _ rfl;have cx:ai wr q (lo+j*13+9) (ae c.1.2.2.1.1):=f 9 _ rfl;have co:ai wr q (lo+j*13+10) (ae c.1.2.2.1.2.1):=f 10 _ rfl;have cp:ai wr q (lo+j*13+11) (ag c.1.2.2.1.2.2):=f 11 _ rfl;have cq:ai wr q (lo+j*13+12) (af c.1.2.2.2.1.1 c.1.2.2.2.2.length c.1.2.2.2.1.2):=f 12 _ rfl;have cD:(0:Int)<=(j:Int):=by omega
     have cE:(j:Int)<(L:Int):=by omega
     have bw:Hid (∃C k,(C=wr.alloc (.cells #[ae c.1.1.1.1,ae c.1.1.1.2.1,ag c.1.1.1.2.2,af c.1.1.2.1.1 c.1.1.2.2.length c.1.1.2.1.2,ae c.1.2.1.1.1,ae c.1.2.1.1.2.1,ag c.1.2.1.1.2.2,af c.1.2.1.2.1.1 c.1.2.1.2.2.length c.1.2.1.2.1.2,af c.2.1.1 c.2.2.length c.2.1.2,ae c.1.2.2.1.1,ae c.1.2.2.1.2.1,ag c.1.2.2.1.2.2,af c.1.2.2.2.1.1 c.1.2.2.2.2.length c.1.2.2.2.1.2] 229)/\k=wr.heap.size)/\ap wr C/\C.heap[k]?=some (.cells #[ae c.1.1.1.1,ae c.1.1.1.2.1,ag c.1.1.1.2.2,af c.1.1.2.1.1 c.1.1.2.2.length c.1.1.2.1.2,ae c.1.2.1.1.1,ae c.1.2.1.1.2.1,ag c.1.2.1.1.2.2,af c.1.2.1.2.1.1 c.1.2.1.2.2.length c.1.2.1.2.1.2,af c.2.1.1 c.2.2.length c.2.1.2,ae c.1.2.2.1.1,ae c.1.2.2.1.2.1,ag c.1.2.2.1.2.2,af c.1.2.2.2.1.1 c.1.2.2.2.2.length c.1.2.2.2.1.2] 229)):=⟨_,_,⟨rfl,rfl⟩,aT _ _,aI _ _⟩;clear f bk a8;go_upto_region 8 with fail;obtain⟨C,b5,⟨b2,bZ⟩,bO,bS⟩:=bw.out;rw[<-b2,<-bZ];have aW:=av (J.1.trans (bO.mono J.1.size));have aV:=av (Y.trans (aW.mono Y.size));have m:=av bS;have bD:=av J.2;have u:Hid (C.heap[d]?=some x/\C.heap[ay]?=some (.cells (bf s) 54)/\C.heap[aX]?=some (.cells (bf y) 54)):=⟨(aV.block d (aN.1 S.1).1).trans S.1,(aV.block ay (aN.1 S.2).1).trans S.2,(aW.block aX (aN.1 br).1).trans br⟩;clear b2 bZ bO bS bw J y0 y1 y2 cr cs ct cu cv cw cx co cp cq;have az:=aj m 0;have aA:=aj m 1;have aH:=aj m 2;have aJ:=aj m 3;have aL:=aj m 4;have aM:=aj m 5;have aO:=aj m 6;have aP:=aj m 7;have aQ:=aj m 8;have aR:=aj m 9;have aD:=aj m 10;have aF:=aj m 11;have aG:=aj m 12;have bF:=aj u.2.1 0;have aa:=aj u.2.2 0;have bH:=aj u.2.1 1;have ab:=aj u.2.2 1;have bI:=aj u.2.1 2;have ad:=aj u.2.2 2;have bJ:=aj u.2.1 3;have al:=aj u.2.2 3;simp only[dl,dy]at az aA aH aJ aL aM aO aP aQ aR aD aF aG bF bH bI bJ aa ab ad al;have bm:=av (b7 s ys U C i j y c bt aV bA bl);go_wp2_with fail;refine bm.mono ?_;rintro e z ⟨F,H,G,rfl,I⟩;clear az aA aH aJ aL aM aO aP aQ aR aD aF aG bF bH bI bJ aa ab ad al bm;obtain⟨t,aq⟩:∃t,t=D i j:=⟨_,rfl⟩;rw[<-aq];have a6:=av aq;clear aq;cases t
     ·have a3:Hid (ap V z/\∀b,b<j+1->D i b=false):=⟨aW.trans (I.1.mono aW.size),λb T=>by
        by_cases e:b=j
        ·rw[e];exact a6.symm
        ·exact bD b (by omega)⟩
      clear I;go_wp2_with fail;go_roundw
      case rel=>exact⟨j+1,by omega,by go_num,a3⟩
      case measure=>simp[intOf];omega
     ·have h:Hid (z.heap[d]?=some x/\z.heap[aX]?=some (.cells (bf y) 54)/\z.heap[b5]?=some (.cells #[ae c.1.1.1.1,ae c.1.1.1.2.1,ag c.1.1.1.2.2,af c.1.1.2.1.1 c.1.1.2.2.length c.1.1.2.1.2,ae c.1.2.1.1.1,ae c.1.2.1.1.2.1,ag c.1.2.1.1.2.2,af c.1.2.1.2.1.1 c.1.2.1.2.2.length c.1.2.1.2.1.2,af c.2.1.1 c.2.2.length c.2.1.2,ae c.1.2.2.1.1,ae c.1.2.2.1.2.1,ag c.1.2.2.1.2.2,af c.1.2.2.2.1.1 c.1.2.2.2.2.length c.1.2.2.2.1.2] 229)):=⟨(I.1.block d (aN.1 u.1).1).trans u.1,(I.1.block aX (aN.1 u.2.2).1).trans u.2.2,(I.1.block b5 (aN.1 m).1).trans m⟩;have K:Hid (z.there d 0 19):=by
       have an:=h.1;rw[bq.out]at an;exact dP an
      have az:=aj h.2.2 0;have aA:=aj h.2.2 1;have aH:=aj h.2.2 2;have aJ:=aj h.2.2 3;have aL:=aj h.2.2 4;have aM:=aj h.2.2 5;have aO:=aj h.2.2 6;have aP:=aj h.2.2 7;have aQ:=aj h.2.2 8;have aR:=aj h.2.2 9;have aD:=aj h.2.2 10;have aF:=aj h.2.2 11;have aG:=aj h.2.2 12;have aa:=aj h.2.1 0;have ab:=aj h.2.1 1;have ad:=aj h.2.1 2;have al:=aj h.2.1 3;simp only[dl,dy]at az aA aH aJ aL aM aO aP aQ aR aD aF aG aa ab ad al;go_upto_region 10 with fail
      iterate 16 go_step
      have B:Hid (∃wf,wf=z.setCells d 0 (DY i y c F H G).toArray.toList/\Hid (wf.rangeAt d 0 (DY i y c F H G)/\bG (λk=>k=d) z wf)):=⟨_,rfl,World.rangeAt_setCells_same z d 0 (DY i y c F H G) K,(eM d _ 0 z).1⟩;refine wpList_store_mid rfl 237 (.tmp 4) (.tmp 41) rfl d 0 (DY i y c F H G).toArray rfl rfl K jc (F7 i y c F H G) ?_;obtain⟨wf,ar,B⟩:=B.out;rw[<-ar];have a9:=av (run_loadVar_mid (P:=Tryz.prog) wf d 0 237 (DY i y c F H G) _ B.1 underlying237 rfl jc);clear ar K az aA aH aJ aL aM aO aP aQ aR aD aF aG aa ab ad al;go_wp2_with fail;refine aB (v:=.tuple #[.agg (DY i y c F H G).toArray,.bool true]) (results_cell_tmp results153 rfl a9 rfl) rfl ?_;refine am ⟨i,j,y,c,F,H,G,rfl,s,ys,U,C,z,bt,bA,bl,a6.symm,bC,bD,Q,aV,I.1,I.2 a6.symm,?_,cc⟩;have bU:=B.2;rw[bs.out]at bU;exact bU
theorem tf{n:Nat}(s m:Tc):(l:List (Cl (n+1)))->(∀c∈l,mi c s m=none)->mV s m l=none
 | [],_=>rfl
 | c::l,h=>by
  simp only[mV,h c (by simp)];exact tf s m l λc a=>h c (b8 _ a)
theorem ye{n:Nat}(s m:Tc):(l:List (Cl (n+1)))->(j:Nat)->(c:Cl (n+1))->(B:List Tc)->l[j]?=some c->mi c s m=some B->(∀d b,d<j->l[d]?=some b->mi b s m=none)->mV s m l=some (c,B)
 | [],j,c,B,h,_,_=>by simp at h
 | a::l,0,c,B,h,hB,_=>by
  simp only[dl,ir]at h;subst h;simp only[mV,hB]
 | a::l,j+1,c,B,h,hB,hn=>by
  simp only[mV,hn 0 a (by omega) rfl];exact ye s m l j c B (by simpa using h) hB λd b f e=>hn (d+1) b (by omega) (by simpa using e)
theorem BE{n:Nat}(l:List (Cl (n+1)))(s:Tc):(ms:List Tc)->(k:Nat)->(∀m∈ms,mV s m l=none)->td l s ms k=none
 | [],_,_=>rfl
 | m::ms,k,h=>by
  simp only[td,h m (by simp)];exact BE l s ms (k+1) λm a=>h m (b8 _ a)
theorem BF{n:Nat}(l:List (Cl (n+1)))(s:Tc):(ms:List Tc)->(k i:Nat)->(m:Tc)->(x:Cl (n+1)×List Tc)->ms[i]?=some m->mV s m l=some x->(∀b c,b<i->ms[b]?=some c->mV s c l=none)->td l s ms k=some (k+i,x)
 | [],k,i,m,x,h,_,_=>by simp at h
 | a::ms,k,0,m,x,h,hx,_=>by
  simp only[dl,ir]at h;subst h;simp only[td,hx,jB]
 | a::ms,k,i+1,m,x,h,hx,hn=>by
  simp only[td,hn 0 a (by omega) rfl];rw[BF l s ms (k+1) i m x (by simpa using h) hx λb c e d=>hn (b+1) c (by omega) (by simpa using d)];congr 2;omega
def QV{n:Nat}(l:List (Cl (n+1)))(s:Tc)(ms:List Tc)(w:ah)(e:Ending)(w':ah):Prop:=
 (td l s ms 0=none/\e=.returned (.tuple #[.agg Hc.toArray,.bool false])/\Hid (ap w w'))\/
  ∃(d:Nat)(a:Tc)(c:Cl (n+1))(b g:Nat),e=.returned (.tuple #[.agg (DY d a c (some ⟨b,0,none⟩) 4 g).toArray,.bool true])/\Hid (∃f i j,td l s ms 0=some (d,c,f)/\c∈l/\ms[d]?=some (cn 13 a)/\bJ 13 a=0/\ap w w'/\In w'.heap.size w' 13 a/\cE (λh=>w.heap.size<h/\h≠b) 13 a/\rL (i+1) j f (w.heap.size+1) w' b g)
theorem rL.kept{D:Nat}{l:List (Tm D)}{B:List Tc}{e:Nat}{w w':ah}{c g q:Nat}(a:rL D l B e w c g)(d:bG (λb=>b=q) w w')(v:q<e):rL D l B e w' c g:=by
 obtain⟨k,f⟩:=a.new;have i:¬c=q:=by omega
 refine⟨a.bnd,a.tells,a.cap,⟨k,aY f d.size⟩,λo t n=>?_,λp=>?_⟩
 ·obtain⟨r,s,j⟩:=a.at' o t n;exact⟨r.kee d f i,s.kee d (j.mono λx m u=>by have:=m.1;omega),j⟩
 ·have h:=a.free p;unfold World.frozen? at h ⊢;rw[d.block c f i];exact h
theorem rL.mono{D:Nat}{l:List (Tm D)}{B:List Tc}{e f:Nat}{w:ah}{h g:Nat}(a:rL D l B e w h g)(j:f<=e):rL D l B f w h g:=
 ⟨a.bnd,a.tells,a.cap,⟨by have:=a.new.1;omega,a.new.2⟩,λc d b=>⟨(a.at' c d b).1,(a.at' c d b).2.1,(a.at' c d b).2.2.mono λk i=>⟨by omega,i.2⟩⟩,a.free⟩
theorem DZ(ax:cU a e name room 13 s ms [] h M w ws nm d vs ma u Mh)(l:List (Cl (n+1)))(aB:aw)(a5 B:Nat)(aX:Lay B w 13 (fF (n+1)) (iP (n+1) B w) aB l)(aM:B<=w.heap.size)(bB:∀c∈l,qI c)(a1:h<=95000)(bk:ms.length<=1000)(bw:l.length<=1000000):au 153 #[aC e,af aB l.length a5] w (QV l (cn 13 s) (ms.map (cn 13)) w):=by
 have aT:=ax.front;have a4:=aT.2.2.1 s (by simp);have a0:∀m∈ms,bJ 13 m=0/\aV 13 m=true:=λm ao=>aT.2.2.1 m (b8 _ ao)
 refine(BD (N:=12) e l aB l.length a5 ms.length w (λg t=>match l[t]?,ms[g]? with
     | some c,some m=>(mi c (cn 13 s) (cn 13 m)).isSome
     | _,_=>false)
  (λK L A=>aH 13 K 13 s=true/\In A.heap.size A 13 K/\aL (λv b=>aH 13 v 13 b) L ms=true/\ap w A/\∀j∈L,In A.heap.size A 13 j/\cE (λZ=>w.heap.size<Z) 13 j)
  (λg t v len P y bf=>∃c m q x J C,l[t]?=some c/\ms[g]?=some m/\mi c (cn 13 s) (cn 13 m)=some q/\v=some ⟨C,0,none⟩/\len=4/\rL (x+1) J q y.heap.size bf C P) bw (by omega) rfl ?_ ?_ ?_).mono ?_
 ·intro g c F;rcases aX with p|⟨b,o,p,aO,i⟩
  ·rw[p]at F;simp at F
  ·exact⟨b,o,p,by omega,(i g c F).1⟩
 ·intro y r bx;refine((ax.later (N:=12) r).state (N:=12) a1).mono ?_;rintro p bZ ⟨j,rfl,bd⟩;obtain⟨y1,y2,bb,bQ⟩:=bd;refine⟨j,rfl,y1,λaI S=>?_⟩;have E:=r.trans (y1.mono r.size);have z:=E.trans (S.mono E.size);refine((ax.later (N:=12) z).mails (N:=12) a1 bk).mono ?_;rintro p bP ⟨L,be,v,c,rfl,bc⟩;obtain⟨a6,Y,a7⟩:=bc;have bl:be=ms.length:=by rw[<-a6];exact cV _ _ _ a7
  subst bl;have T:ap aI bP:=Y.1;have bX:=r.size;have a2:=y1.size;have a3:=S.size;obtain⟨bT,ae,Q,aJ,ag,_⟩:=fC.lay (eC 13) (f:=kX 13) (λ_=>rfl) Y;injection Q with Q bU bV;subst Q;refine⟨v,c,L,rfl,a6,T,λg ad H=>?_,bQ,((y2.below S).mono S.size |>.below T).mono T.size,a7,z.trans (T.mono z.size),λad H=>⟨(Y.2.2 ad H).1,(Y.2.2 ad H).2.mono λZ X=>?_⟩⟩
  ·rcases ag with ag|⟨bi,o,bh,U,i⟩
   ·rw[ag]at H;simp at H
   ·exact⟨bi,o,bh,U,(i g ad H).1⟩
  ·rcases X.1 with bS|bS
   ·omega
   ·omega
 ·rintro K L A y g t j c ⟨aa,ba,ab,aE,aF⟩ r G i;have bD:=aR G;have bv:g<ms.length:=by
   have:=(aZ.1 G).1;rw[cV _ _ _ ab]at this;exact this
  have av:ms[g]?=some ms[g]:=aS bv;have I:=jY _ _ _ ab g j ms[g] G av;have W:=a0 ms[g] (gg _);have br:=aR i;obtain⟨bI,bK,_⟩:=bB c br;have bp:iP (n+1) B w c:=by
   rcases aX with p|⟨b,o,p,aO,bo⟩
   ·rw[p]at i;simp at i
   ·exact(bo t c i).2
  have aQ:=aE.trans (r.mono aE.size);have bn:iP (n+1) y.heap.size y c:=(eL (n+1)).mono (aD aM aQ.size) ((eL (n+1)).below (aQ.mono aM) bp);have bt:=I3 c (n:=n) (m:=12) (k:=12) K j y.heap.size y bn ((ba.below r).mono r.size) (((aF j bD).1.below r).mono r.size) (ay _) bI bK ((bN aa).trans a4.1) ((cF _ _ _ _ aa).trans a4.2) ((bN I).trans W.1) ((cF _ _ _ _ I).trans W.2);refine bt.mono ?_;rintro p bO ⟨v,len,P,bM,rfl,O⟩;obtain⟨ai,D,aK⟩:=O.out;have Q:cn (12+1) K=cn 13 s:=gA aa;have aJ:cn (12+1) j=cn 13 ms[g]:=gA I;rw[Q,aJ]at D aK
  have aj:(match l[t]?,ms[g]? with
   | some c,some m=>(mi c (cn 13 s) (cn 13 m)).isSome
   | _,_=>false)=bM:=by
   rw[i,av];exact D.symm
  refine⟨v,len,P,by rw[aj],ai,λU=>?_⟩;rw[aj]at U;rw[U]at D;obtain⟨q,aN⟩:=gi.1 D.symm;obtain⟨bF,x,J,C,bG,aA⟩:=aK q aN;cases x with
  | zero=>
   have bW:=(iA aA.bnd).1;exact((aA.at' 0 (J[0]'(by omega)) (aS _)).2.1).elim
  | succ x=>exact⟨c,ms[g],q,x,J,C,i,av,aN,bG,bF,aA⟩
 ·rintro p bO (⟨rfl,O⟩|⟨g,t,j,c,v,len,P,rfl,O⟩)
  ·obtain⟨ai,D⟩:=O.out;refine ak ⟨BE l _ _ 0 λm ao=>tf _ _ l λc i=>?_,rfl,D⟩;obtain⟨bH,ar,rfl⟩:=b9.1 ao;obtain⟨g,F,rfl⟩:=List.mem_iff_getElem.1 ar;obtain⟨t,aW,rfl⟩:=List.mem_iff_getElem.1 i;have:=ai g t F aW;simp only[aS F,aS aW]at this;exact lG.1 (by rw[<-lJ,this];rfl)
  ·obtain⟨K,L,A,aI,bg,⟨aa,ba,ab,aE,aF⟩,G,i,aj,bz,bA,aP,E,z,⟨ae,m,q,x,J,C,a8,R,bL,rfl,rfl,a9⟩,an,bx⟩:=O;rw[i]at a8;obtain rfl:=aG a8;have I:=jY _ _ _ ab g j m G R;have W:=a0 m (aR R);have bs:cn 13 j=cn 13 m:=gA I;have bC:=aP.size;have a2:=E.size;have a3:=z.size;obtain⟨y1,y2⟩:=aF j (aR G);have bR:=In.offB y2 y1;have bm:ap w bg:=(aP.trans (E.mono bC)).trans (z.mono (by omega));refine am ⟨g,j,c,C,P,rfl,q,x,J,?_,aR i,?_,(bN I).trans W.1,bm.trans (an.below (by omega) λb aO p=>by omega),?_,bR.mono λZ X=>⟨X.1,λp=>?_⟩,(a9.kept an (by omega)).mono (by omega)⟩
   ·have bq:mV (cn 13 s) (cn 13 m) l=some (c,q):=ye _ _ l t c q i bL λaz ae V al=>by
      have:=bA az V;simp only[al,R]at this;exact lG.1 (by rw[<-lJ,this];rfl)
    have:=BF l (cn 13 s) (ms.map (cn 13)) 0 g (cn 13 m) (c,q) (by rw[df,R];rfl) bq λbE bY bu aY=>by
     rw[df]at aY;obtain⟨bH,ar,rfl⟩:=cH.1 aY;refine tf _ _ l λae al=>?_;obtain⟨az,V,rfl⟩:=List.mem_iff_getElem.1 al;have:=bz bE az bu V;simp only[aS V,ar]at this;exact lG.1 (by rw[<-lJ,this];rfl)
    rw[this,cw]
   ·rw[df,R,bs];rfl
   ·have bb:=((y1.below E).mono a2 |>.below z).mono a3;exact bb.kee an (y2.mono λZ X p=>by omega)
   ·have:=a9.new.1;omega
def uB:List ax:=[ae 0,ae 0]
theorem wV(w:ah)(ty:TypeId)(g o c:Nat)(a:Array ax)(e:w.heap[g]?=some (.cells a 184 (0,0)))(d:o+2<=a.size):(Builtin.clear_ #[187] ty #[af (some ⟨g,o,none⟩) 1 c]).run Tryz.prog w=.ok (.tuple #[]) (w.setRow g (a.toList.take o++uB++a.toList.drop (o+2)).toArray):=by
 have b:=qn Tryz.prog g o 184 uB 0 a w e (by simpa [uB]using d) (by simp[uB,Value.oneCell']);have h:(Builtin.zeroCells (Value.agg #[ae 0,ae 0]).cells 1).toList=uB:=by
  simp[Builtin.zeroCells,Value.cells,uB];rfl
 simp only[jB]at b;have f:uB.length=2:=rfl;rw[f]at b;simp[Builtin.clear_,cI underlying187,h,b]
theorem JP(w:ah)(g a L c i:Nat)(f:L<=c)(h:i+1<=L):(Instr.slice 187 (af (some ⟨g,a,none⟩) L c) (some (ae i)) (some (ae ((i:Int)+1))) (some (ae L))).run Tryz.prog w=.ok (af (some ⟨g,a+i*2,none⟩) 1 (L-i)) w:=by
 have b:(i:Int)+1<=(L:Int):=by omega
 have d:¬L=i:=by omega
 have e:(0:Int)<=(i:Int)+1:=by omega
 simp[Instr.slice,cI underlying187,Instr.sliceBounds,Instr.sliceBound,asIntOf,b,d,e,f,go_sem,eR]
theorem Ba(w:ah)(g a L c i:Nat)(d:i<=c):(Instr.slice 187 (af (some ⟨g,a,none⟩) L c) none (some (ae i)) none).run Tryz.prog w=.ok (af (some ⟨g,a,none⟩) i c) w:=by
 have b:¬c<i:=by omega
 simp[Instr.slice,cI underlying187,Instr.sliceBounds,Instr.sliceBound,asIntOf,b,go_sem]
theorem DL(w:ah)(g a L c i:Nat)(h:i+1<=L):(Instr.slice 187 (af (some ⟨g,a,none⟩) L c) (some (ae ((i:Int)+1))) none none).run Tryz.prog w=.ok (.slice (some (if c=i+1 then ⟨g,a,none⟩else ⟨g,a+(i+1)*2,none⟩)) (L-(i+1)) (c-(i+1))) w:=by
 have b:(i:Int)+1<=(L:Int):=by omega
 have e:(0:Int)<=(i:Int)+1:=by omega
 have f:((i:Int)+1).toNat=i+1:=by omega
 by_cases d:c=i+1
 ·simp[Instr.slice,cI underlying187,Instr.sliceBounds,Instr.sliceBound,asIntOf,b,d,e,f,go_sem,eR]
 ·simp[Instr.slice,cI underlying187,Instr.sliceBounds,Instr.sliceBound,asIntOf,b,d,e,f,go_sem,eR]
theorem DK(w:ah)(g a m c:Nat)(f:m+1<=c):(Instr.slice 187 (af (some ⟨g,a,none⟩) m c) (some (ae m)) (some (ae ((m:Int)+1))) none).run Tryz.prog w=.ok (af (some ⟨g,a+m*2,none⟩) 1 (c-m)) w:=by
 have b:¬c=m:=by omega
 have d:(m:Int)+1<=(c:Int):=by omega
 have e:(0:Int)<=(m:Int)+1:=by omega
 simp[Instr.slice,cI underlying187,Instr.sliceBounds,Instr.sliceBound,asIntOf,b,d,e,go_sem,eR]
theorem xL{v x':ax}{c:Array Oper}{o:Oper}{a:Act}{K:Act->bE}{Q:Exit->Act->bE}{E:Prop}(e:o.guard=none)(s x:Operand)(f:o.op=.call {callee:=.builtin .append,args:= #[s,x],argTypes:= #[187,187]})(h:a.eval s=v)(j:a.eval x=x')(g:(Builtin.append_ #[187,187] o.type #[v,x']).run Tryz.prog w=.ok b w')(d:K (a.put o.dst b) w'):if Region.wanted o (yielded c a.tmps)=true then Oper.wp Tryz.prog o a w K Q else E:=by
 have i:Region.wanted o (yielded c a.tmps)=true:=by simp[Region.wanted,e]
 rw[if_pos i];unfold Oper.wp execOp;simp only[f,resolve,invoke,builtin,jD,jE,jC,jz,bz,dz,h,j,g];exact d
theorem BR(g b a i L:Nat)(w:ah)(d:Addr)(c f:dG)(_hL:L<=a)(_hi:i+1<=L)(_hm:L<=1000000)(k:Hid (∀W,(Instr.slice 187 (af (some ⟨g,b,none⟩) L a) (some (ae i)) (some (ae ((i:Int)+1))) (some (ae L))).run Tryz.prog W=.ok (af (some ⟨g,b+i*2,none⟩) 1 (L-i)) W))(l:Hid (∀W,(Instr.slice 187 (af (some ⟨g,b,none⟩) L a) none (some (ae i)) none).run Tryz.prog W=.ok (af (some ⟨g,b,none⟩) i a) W))(m:Hid (∀W,(Instr.slice 187 (af (some ⟨g,b,none⟩) L a) (some (ae ((i:Int)+1))) none none).run Tryz.prog W=.ok (af (some d) (L-(i+1)) (a-(i+1))) W))(h:Hid (∀ty,(Builtin.append_ #[187,187] ty #[af (some ⟨g,b,none⟩) i a,af (some d) (L-(i+1)) (a-(i+1))]).run Tryz.prog w.drew=.ok (af (some ⟨g,b,none⟩) (L-1:Nat) a) (w.drew.setRow g c.toArray)))(n:Hid (∀W,(Instr.slice 187 (af (some ⟨g,b,none⟩) (L-1:Nat) a) (some (ae (L-1:Nat))) (some (ae L)) none).run Tryz.prog W=.ok (af (some ⟨g,b+(L-1)*2,none⟩) 1 (a-(L-1))) W))(j:Hid (∀ty,(Builtin.clear_ #[187] ty #[af (some ⟨g,b+(L-1)*2,none⟩) 1 (a-(L-1))]).run Tryz.prog (w.drew.setRow g c.toArray)=.ok (.tuple #[]) ((w.drew.setRow g c.toArray).setRow g f.toArray))):au 155 #[af (some ⟨g,b,none⟩) L a,ae i,ae ((i:Int)+1)] w λe w'=>e=.returned (af (some ⟨g,b,none⟩) (L-1:Nat) a)/\w'=(w.drew.setRow g c.toArray).setRow g f.toArray:=by
 have u:=k.out;have v:=l.out;have x:=m.out;have s:=n.out;have r:=j.out;have o:=h.out 187;clear k l m n j h;have t:¬(i:Int)=(i:Int)+1:=by omega
 obtain⟨q,p⟩:∃q:Nat,q=L-1:=⟨_,rfl⟩;rw[<-p]at s o r ⊢;clear p;go_enter func155,ntmps155;go_wp2_with fail;go_region_held3 (λ_=>True) (trivial) ((first|(refine xL rfl _ _ rfl (by simp[Act.eval]) (by simp[Act.eval]) o ?_)));go_wp2_with fail
 go_ret
 exact⟨rfl,rfl⟩
theorem zX(g a d i:Nat)(vs:List Wd)(c:Array ax)(w:ah)(Q:i<vs.length)(u:w.heap[g]?=some (.cells c 184 (0,0)))(B:vs.length<=d)(L:vs.length<=1000000)(R:a+d*2<=c.size)(D:(c.toList.drop a).take (vs.length*2)=bw vs):au 155 #[af (some ⟨g,a,none⟩) vs.length d,ae i,ae ((i:Int)+1)] w λe w'=>e=.returned (af (some ⟨g,a,none⟩) (vs.length-1:Nat) d)/\Hid (bG (λb=>b=g) w w'/\w'.heap.size=w.heap.size/\∃p,w'.heap[g]?=some (.cells p 184 (0,0))/\p.size=c.size/\(p.toList.drop a).take ((vs.length-1)*2)=bw (vs.eraseIdx i)):=by
 obtain⟨O,hit,S,x,T⟩:=bR lT;have v:c.toList.length=c.size:=ls;obtain⟨k,n⟩:∃k,k=bw (vs.drop (i+1)):=⟨_,rfl⟩;have t:k.length=(vs.length-(i+1))*2:=by rw[n,cO,eT]
 have H:∀f l,k[f]?=some l->c.toList[a+(i+1)*2+f]?=some l:=λf l m=>by
  have K:=(aZ.1 m).1;have y:(bw vs)[(i+1)*2+f]?=some l:=by
   rw[<-m,n];have:=uz vs (i+1) (vs.length-(i+1)) f (by omega);rw[bF (by simp)]at this;exact this.symm
  rw[<-D,jx,if_pos (by omega),jw]at y;rw[show a+(i+1)*2+f=a+((i+1)*2+f) by omega];exact y
 have M:∀h:ah,h.heap[g]?=some (.cells c 184 (0,0))->∀f l,k[f]?=some l->h.cell? ((if d=i+1 then (⟨g,a,none⟩:Addr)else ⟨g,a+(i+1)*2,none⟩).add f)=some l:=λh I f l m=>by
  have K:=(aZ.1 m).1;by_cases G:d=i+1
  ·omega
  ·rw[if_neg G,eR,aj I];exact H f l m
 have o:=λty:TypeId=>pn (P:=Tryz.prog) w.drew 187 ty 184 O underlying187 hit g a i d c u (if d=i+1 then (⟨g,a,none⟩:Addr)else ⟨g,a+(i+1)*2,none⟩) (vs.length-(i+1)) (d-(i+1)) k (by rw[t,x]) (M w.drew u) (by rw[n];exact rH _) (by omega) (by rw[x,t];omega);simp only[x]at o;rw[show i+(vs.length-(i+1))=vs.length-1 by omega]at o;obtain⟨j,r⟩:∃j,j=c.toList.take (a+i*2)++k++c.toList.drop (a+i*2+k.length):=⟨_,rfl⟩;rw[<-r]at o;have s:j.length=c.size:=by
  rw[r];simp only[bm,dr,eT,v];omega
 have A:(w.drew.setRow g j.toArray).heap[g]?=some (.cells j.toArray 184 (0,0)):=setRow_heap w.drew g c _ _ _ u;have J:=λty:TypeId=>wV (w.drew.setRow g j.toArray) ty g (a+(vs.length-1)*2) (d-(vs.length-1)) j.toArray A (by simp only[fL,s];omega);have z:=λh=>DK h g a (vs.length-1) d (by omega);rw[show (((vs.length-1:Nat):Int)+1)=(vs.length:Int) by omega]at z;refine(BR g a d i vs.length w _ j _ B (by omega) L (λh=>JP h g a vs.length d i B (by omega)) (λh=>Ba h g a vs.length d i (by omega)) (λh=>DL h g a vs.length d i (by omega)) o z J).mono ?_;rintro e w' ⟨rfl,rfl⟩;refine⟨rfl,⟨rfl,rfl,rfl,by simp,λb _ C=>(setRow_other _ _ _ _ C).trans (setRow_other _ _ _ _ C)⟩,by simp,_,setRow_heap _ _ _ _ _ _ A,?_,?_⟩
 ·have N:uB.length=2:=rfl;simp only[fL,bm,dr,eT,s,N];omega
 ·have q:(j.take (a+(vs.length-1)*2)).length=a+(vs.length-1)*2:=by rw[dr,s];omega
  rw[lw,p8 (by rw[q];omega),kp (by rw[eT,q];omega),bF (by rw[eT,q];omega)];have E:j.take (a+(vs.length-1)*2)=c.toList.take (a+i*2)++k:=by
   rw[r];exact List.take_left' (by rw[bm,dr,t,v];omega)
  rw[E,p8 (by rw[dr,v];omega),List.drop_take];have F:(c.toList.drop a).take (i*2)=bw (vs.take i):=by
   have:=congrArg (List.take (i*2)) D;rw[List.take_take,Nat.min_eq_left (by omega)]at this;rw[this]
   conv=>lhs;rw[<-iL i vs,qD]
   exact List.take_left' (by rw[cO,dr];omega)
  rw[show a+i*2-a=i*2 by omega,F,n,<-qD,tV]
def PH(y0 y1:Int)(y2:aq)(ya:aw)(yl yc:Nat)(f:Int)(sa:aw)(sl sc:Nat)(pa:aw)(pl pc:Nat)(ka:aw)(kl kc:Nat):ax:=.agg #[ae y0,ae y1,ag y2,af ya yl yc,ae f,af sa sl sc,af pa pl pc,af ka kl kc]
def N3:ax:=.agg #[ae 0,ae 0,ag ⟨#[]⟩,af none 0 0,ae 0,af none 0 0,af none 0 0,af none 0 0]
def QZ{n:Nat}(d:Int)(rng:Bool)(j:Prop)(T:Nat->Tc->Cl (n+1)->Int->aw->Nat->Nat->aw->Nat->Nat->aw->Nat->Nat->bE)(w:ah)(e:Ending)(w':ah):Prop:=
 (∃g,e=.returned (.tuple #[N3,ae g])/\Hid (ap w w'/\((g=d/\d≠0)\/(g=1/\d=0/\rng=false)\/(g=4/\d=0/\rng=true/\j))))\/
  ∃(k:Nat)(a:Tc)(c:Cl (n+1))(f:Int)(sa:aw)(sl sc:Nat)(pa:aw)(pl pc:Nat)(ka:aw)(kl kc:Nat),e=.returned (.tuple #[PH a.1.1 a.1.2.1 a.1.2.2 a.2.1.1 a.2.2.length a.2.1.2 f sa sl sc pa pl pc ka kl kc,ae 0])/\Hid (d=0/\rng=true/\∃h i,T k a c f sa sl sc pa pl pc ka kl kc h/\ap h i/\bG (λb=>b=w.heap.size) i w')
theorem Dc(w:ah)(q:Nat)(v0 v1 v2 v3 a b c d:ax):(((((((w.setCell ⟨q,0,none⟩ v0).setCell ⟨q,1,none⟩ v1).setCell ⟨q,2,none⟩ v2).setCell ⟨q,3,none⟩ v3).setCell ⟨q,4,none⟩ a).setCell ⟨q,5,none⟩ b).setCell ⟨q,6,none⟩ c).setCell ⟨q,7,none⟩ d=w.setCells q 0 [v0,v1,v2,v3,a,b,c,d]:=rfl
theorem GD{a d e g:ax}(h:w.heap[q]?=some (.cells #[b,c,f,j,a,d,e,g] t))(v0 v1 v2 v3:ax):((((w.setCell ⟨q,0,none⟩ v0).setCell ⟨q,1,none⟩ v1).setCell ⟨q,2,none⟩ v2).setCell ⟨q,3,none⟩ v3).heap[q]?=some (.cells #[v0,v1,v2,v3,a,d,e,g] t):=by
 unfold World.setCell;simp[bQ,h]
theorem Jb(g:w.heap[q]?=some (.cells #[v0,v1,v2,v3,b,c,f,j] t))(a d e:ax):(((w.setCell ⟨q,5,none⟩ a).setCell ⟨q,6,none⟩ d).setCell ⟨q,7,none⟩ e).heap[q]?=some (.cells #[v0,v1,v2,v3,b,a,d,e] t):=by
 unfold World.setCell;simp[bQ,g]
theorem yu:(Tryz.prog.info? 200).map (·.size)=some 8:=by kernel_rfl
theorem ib(vs:dG)(a:vs.length=8)(b:W.there q 0 8):(loadVar 200 ⟨q,0,none⟩).run Tryz.prog (W.setCells q 0 vs)=.ok (.agg vs.toArray) (W.setCells q 0 vs):=
 run_loadVar_mid (P:=Tryz.prog) (W.setCells q 0 vs) q 0 200 vs _ (World.rangeAt_setCells_same W q 0 vs (by rw[a];exact b)) underlying200 rfl (by rw[a];exact yu)
theorem CA(vs:dG)(a:vs.length=8)(b:W.there q 0 8):(loadVar 200 ⟨q,0,none⟩).run Tryz.prog (W.setCells q 0 vs).drew=.ok (.agg vs.toArray) (W.setCells q 0 vs).drew:=
 run_loadVar_mid (P:=Tryz.prog) (W.setCells q 0 vs).drew q 0 200 vs _ ((World.rangeAt_drew _ _ _ _).2 (World.rangeAt_setCells_same W q 0 vs (by rw[a];exact b))) underlying200 rfl (by rw[a];exact yu)
theorem lp(vs:dG)(a:ap w W)(d:q=w.heap.size):ap w (W.setCells q 0 vs):=a.trans ((eM q vs 0 W).1.below a.size λb c e=>by omega)
theorem Jk(z:Nat)(name:aq)(bY:aw)(L bZ:Nat)(self next:Int)(aP:Int)(cE:aw)(cD cF:Nat)(w:ah)(cC:Prop)(K bQ:Nat->Tc->Cl (n+1)->Nat->Nat->bE)(T:Nat->Tc->Cl (n+1)->Int->aw->Nat->Nat->aw->Nat->Nat->aw->Nat->Nat->bE)(rng:Bool)(aF:aU)(dk:z<w.heap.size)(cp:Hid (∀b,aF b->b<w.heap.size))(c9:Hid (aF z))(a2:Hid (rng=(decide (1<=self) && decide (self<=99) && decide (1<=next) && decide (next<=92))))(ct:Hid (∀W,ap w W->au 82 #[af bY L bZ] W λe w'=>∃y0 y1 y2 ya yl yc,e=.returned (.tuple #[.agg #[ae y0,ae y1,ag y2,af ya yl yc],ae aP])/\Hid (ap W w')))(c8:Hid (ai w z 0 (ag name)))(cf:Hid (∀W,aP=0->ap w W->au 154 #[af bY L bZ,ag name] W λe w'=>e=.returned (af cE cD cF)/\Hid (ap W w')))(cd:Hid (∀W,aP=0->rng=true->ap w W->au 153 #[aC z,af cE cD cF] W λe w'=>(e=.returned (.tuple #[.agg Hc.toArray,.bool false])/\Hid (ap W w'/\cC))\/∃(i:Nat)(y:Tc)(c:Cl (n+1))(l r:Nat),e=.returned (.tuple #[.agg (DY i y c (some ⟨l,0,none⟩) 4 r).toArray,.bool true])/\Hid (ap W w'/\W.heap.size<=l/\l<w'.heap.size/\i<=1000000/\K i y c l r w')))(cn:Hid (∀i y c l r a1 W,K i y c l r a1->ap a1 W->∃ma aV aS,(ai W z 7 (af ma aV aS)/\W.frozen? ⟨z,7,none⟩=false)/\Hid (∀bR,ap W bR->au 155 #[af ma aV aS,ae i,ae ((i:Int)+1)] bR λe w'=>∃bj bl bk,e=.returned (af bj bl bk)/\Hid (bG aF bR w'/\ai w' z 7 (af ma aV aS)/\w'.frozen? ⟨z,7,none⟩=false/\bQ i y c l r (w'.setCell ⟨z,7,none⟩ (af bj bl bk))))))(ci:Hid (∀i y c l r a1 W m,bQ i y c l r a1->ap a1 W->a1.heap.size<=m->W.heap[m]?=some (.cells #[af (some ⟨l,0,none⟩) 4 r,ae self,ae next,af none 0 0,af none 0 0,af none 0 0,.bool false] 243)->au 156 #[aC z,QI c,aC m] W λe w'=>∃f,e=.returned (ae f)/\Hid (bG (λb=>aF b\/b=m\/b=l) W w'/\(f=0\/f=1->∃v0 v1 v2 cZ sa sl sc pa pl pc ka kl kc,w'.heap[m]?=some (.cells #[v0,v1,v2,af sa sl sc,af pa pl pc,af ka kl kc,cZ] 243)/\T i y c f sa sl sc pa pl pc ka kl kc w')/\(¬(f=0\/f=1)->T i y c f none 0 0 none 0 0 none 0 0 w')))):au 125 #[aC z,af bY L bZ,ae self,ae next] w (QZ aP rng cC T w):=by
 have cv:Hid (∃bm aW bD,(bm=w.alloc bD/\aW=w.heap.size/\bD=.cells #[ae 0,ae 0,ag ⟨#[]⟩,af none 0 0,ae 0,af none 0 0,af none 0 0,af none 0 0] 200)/\ap w bm/\bm.heap[aW]?=some bD/\w.heap.size<bm.heap.size/\Hid (aW=w.heap.size)):=⟨_,_,_,⟨rfl,rfl,rfl⟩,aT _ _,aI _ _,by simp,rfl⟩;go_enter func125,ntmps125;go_upto_region 1 with fail;obtain⟨bm,j,bD,⟨bX,cP,cO⟩,cL,bW,cN,aa⟩:=cv.out;rw[cO]at bX bW;rw[<-bX,<-cP];have br:=av cL;have bJ:=av bW;have ck:=av cN;clear bX cP cO cL bW cN cv;go_wp2_with fail;refine(ct _ br).mono ?_;rintro e b9 ⟨y0,y1,y2,ya,yl,yc,rfl,bo⟩;have bF:=av (br.trans (bo.mono br.size));have bK:Hid (b9.heap[j]?=_):=(bo.block j (aN.1 bJ).1).trans bJ;have cl:=av (aY ck bo.size);clear bo bJ br ck ct;have cy:Hid (∃U,U=b9.alloc (.cells #[ae y0,ae y1,ag y2,af ya yl yc] 54)/\ap b9 U):=⟨_,rfl,aT _ _⟩;go_upto_region 2 with fail;obtain⟨U,cW,bC⟩:=cy.out;rw[<-cW];have Y:=av (bF.trans (bC.mono bF.size));have d:Hid (U.heap[j]?=_):=(bC.block j (aN.1 bK).1).trans bK;have cm:=av (aY cl bC.size);clear cW bC cy bK bF cl;by_cases bA:aP=0;rotate_left
 ·have c5:=av bA;have D:=aj d 0;have E:=aj d 1;have F:=aj d 2;have G:=aj d 3;have H:=aj d 4;have I:=aj d 5;have J:=aj d 6;have M:=aj d 7;simp only[dl,dy]at D E F G H I J M;have aX:∀g,U.frozen? ⟨j,g,none⟩=false:=λg=>by simp[World.frozen?,d.out]
  go_wp2_with fail;rw[Dc];refine aB (v:=.tuple #[N3,ae aP]) (results_cell_tmp results125 rfl (ib _ rfl (dP d)) rfl) rfl ?_;exact ak ⟨aP,rfl,lp _ Y aa,ak ⟨rfl,c5⟩⟩
 ·have cg:=av λW=>cf W bA;have ce:=av λW=>cd W bA;clear cf cd;subst bA;cases hr:rng
  ·rw[hr]at a2;have da:=av a2.out;clear a2;by_cases dm:self<1
   ·have D:=aj d 0;have E:=aj d 1;have F:=aj d 2;have G:=aj d 3;have H:=aj d 4;have I:=aj d 5;have J:=aj d 6;have M:=aj d 7;simp only[dl,dy]at D E F G H I J M;have aX:∀g,U.frozen? ⟨j,g,none⟩=false:=λg=>by simp[World.frozen?,d.out]
    go_wp2_with fail;rw[Dc];refine aB (v:=.tuple #[N3,ae 1]) (results_cell_tmp results125 rfl (ib _ rfl (dP d)) rfl) rfl ?_;exact ak ⟨1,rfl,lp _ Y aa,am (ak ⟨rfl,rfl,by first|rfl|exact hr⟩)⟩
   ·by_cases dn:99<self
    ·have D:=aj d 0;have E:=aj d 1;have F:=aj d 2;have G:=aj d 3;have H:=aj d 4;have I:=aj d 5;have J:=aj d 6;have M:=aj d 7;simp only[dl,dy]at D E F G H I J M;have aX:∀g,U.frozen? ⟨j,g,none⟩=false:=λg=>by simp[World.frozen?,d.out]
     go_wp2_with fail;rw[Dc];refine aB (v:=.tuple #[N3,ae 1]) (results_cell_tmp results125 rfl (ib _ rfl (dP d)) rfl) rfl ?_;exact ak ⟨1,rfl,lp _ Y aa,am (ak ⟨rfl,rfl,by first|rfl|exact hr⟩)⟩
    ·by_cases dp:next<1
     ·have D:=aj d 0;have E:=aj d 1;have F:=aj d 2;have G:=aj d 3;have H:=aj d 4;have I:=aj d 5;have J:=aj d 6;have M:=aj d 7;simp only[dl,dy]at D E F G H I J M;have aX:∀g,U.frozen? ⟨j,g,none⟩=false:=λg=>by simp[World.frozen?,d.out]
      go_wp2_with fail;rw[Dc];refine aB (v:=.tuple #[N3,ae 1]) (results_cell_tmp results125 rfl (ib _ rfl (dP d)) rfl) rfl ?_;exact ak ⟨1,rfl,lp _ Y aa,am (ak ⟨rfl,rfl,by first|rfl|exact hr⟩)⟩
     ·by_cases dq:92<next
      ·have D:=aj d 0;have E:=aj d 1;have F:=aj d 2;have G:=aj d 3;have H:=aj d 4;have I:=aj d 5;have J:=aj d 6;have M:=aj d 7;simp only[dl,dy]at D E F G H I J M;have aX:∀g,U.frozen? ⟨j,g,none⟩=false:=λg=>by simp[World.frozen?,d.out]
       go_wp2_with fail;rw[Dc];refine aB (v:=.tuple #[N3,ae 1]) (results_cell_tmp results125 rfl (ib _ rfl (dP d)) rfl) rfl ?_;exact ak ⟨1,rfl,lp _ Y aa,am (ak ⟨rfl,rfl,by first|rfl|exact hr⟩)⟩
      ·exfalso;have k:=da.out;have bS:1<=self:=by omega
       have bT:self<=99:=by omega
       have bU:1<=next:=by omega
       have bV:next<=92:=by omega
       simp[bS,bT,bU,bV]at k
  ·rw[hr]at a2;have db:=av a2.out;have ⟨bS,bT,bU,bV⟩:1<=self/\self<=99/\1<=next/\next<=92:=by
    have k:=db.out;simp only[Bool.true_eq,aO,cT]at k;exact⟨k.1.1.1,k.1.1.2,k.1.2,k.2⟩
   have dm:¬self<1:=by omega
   have dn:¬99<self:=by omega
   have dp:¬next<1:=by omega
   have dq:¬92<next:=by omega
   have dj:ai U z 0 (ag name):=(Y.cell (p:=⟨z,0,none⟩) dk).trans c8;have c3:=av λW=>ce W hr;clear bS bT bU bV a2 ce;go_wp2_with fail;refine(cg U Y).mono ?_;rintro e dG ⟨rfl,bp⟩;have a6:=av (Y.trans (bp.mono Y.size));have bw:=av ((bp.block j (aN.1 d).1).trans d);have c6:=av (aY cm bp.size);clear bp cg d Y cm dj;go_wp2_with fail;refine(c3 dG a6).mono ?_;rintro e ab (⟨rfl,P⟩|⟨i,y,c,l,r,rfl,P⟩)
   ·have aG:=av (a6.trans (P.1.mono a6.size));have aZ:=av ((P.1.block j (aN.1 bw).1).trans bw);have a9:Hid (∃A a,(A=ab.alloc (.cells #[ae 0,ae 0,ae 0,ag ⟨#[]⟩,af none 0 0,ae 0,ae 0,ag ⟨#[]⟩,af none 0 0,ae 0,ae 0,ag ⟨#[]⟩,af none 0 0,af none 0 0,ae 0,ae 0,ag ⟨#[]⟩,af none 0 0,af none 0 0] 237)/\a=ab.heap.size)/\Hid (ap ab A/\A.heap[a]?=some (.cells #[ae 0,ae 0,ae 0,ag ⟨#[]⟩,af none 0 0,ae 0,ae 0,ag ⟨#[]⟩,af none 0 0,ae 0,ae 0,ag ⟨#[]⟩,af none 0 0,af none 0 0,ae 0,ae 0,ag ⟨#[]⟩,af none 0 0,af none 0 0] 237)/\ab.heap.size<=a)):=⟨_,_,⟨rfl,rfl⟩,aT _ _,aI _ _,ay _⟩;dsimp only
    iterate 13 go_step
    obtain⟨A,a,⟨bh,bf⟩,B⟩:=a9.out;rw[<-bh,<-bf];clear bh bf;have a0:Hid (A.there a 0 19):=dP B.2.1;have aL:=av (aN.1 aZ).1;have ba:Hid (∃wf,wf=A.setCells a 0 Hc.toArray.toList/\Hid (bG (λaW=>aW=a) A wf)):=⟨_,rfl,(eM a _ 0 A).1⟩;refine wpList_store_mid rfl 237 (.tmp 12) (.tmp 49) rfl a 0 Hc.toArray rfl rfl a0 jc F6 ?_;obtain⟨wf,bi,al⟩:=ba.out;rw[<-bi];clear bi a0 ba a9;have c1:=av ((aG.trans (B.1.mono aG.size)).trans (al.below (by have:=aG.size;have:=B.1.size;omega) λb bd e=>by have:=aG.size;have:=B.2.2;omega));have Z:=av ((al.block j (aY aL B.1.size) (λe=>by have:=aL.out;have:=B.2.2;omega)).trans ((B.1.block j aL).trans aZ));have c7:=av P.2;clear al aZ aG P B;have D:=aj Z 0;have E:=aj Z 1;have F:=aj Z 2;have G:=aj Z 3;have H:=aj Z 4;have I:=aj Z 5;have J:=aj Z 6;have M:=aj Z 7;simp only[dl,dy]at D E F G H I J M;have aX:∀g,wf.frozen? ⟨j,g,none⟩=false:=λg=>by simp[World.frozen?,Z.out]
    go_wp2_with fail;rw[Dc];refine aB (v:=.tuple #[N3,ae 4]) (results_cell_tmp results125 rfl (ib _ rfl (dP Z)) rfl) rfl ?_;exact ak ⟨4,rfl,lp _ c1 aa,am (am ⟨rfl,rfl,hr,c7⟩)⟩
   ·have aG:=av (a6.trans (P.1.mono a6.size));have aZ:=av ((P.1.block j (aN.1 bw).1).trans bw);have a9:Hid (∃A a,(A=ab.alloc (.cells #[ae 0,ae 0,ae 0,ag ⟨#[]⟩,af none 0 0,ae 0,ae 0,ag ⟨#[]⟩,af none 0 0,ae 0,ae 0,ag ⟨#[]⟩,af none 0 0,af none 0 0,ae 0,ae 0,ag ⟨#[]⟩,af none 0 0,af none 0 0] 237)/\a=ab.heap.size)/\Hid (ap ab A/\A.heap[a]?=some (.cells #[ae 0,ae 0,ae 0,ag ⟨#[]⟩,af none 0 0,ae 0,ae 0,ag ⟨#[]⟩,af none 0 0,ae 0,ae 0,ag ⟨#[]⟩,af none 0 0,af none 0 0,ae 0,ae 0,ag ⟨#[]⟩,af none 0 0,af none 0 0] 237)/\ab.heap.size<=a)):=⟨_,_,⟨rfl,rfl⟩,aT _ _,aI _ _,ay _⟩;dsimp only
    iterate 13 go_step
    obtain⟨A,a,⟨bh,bf⟩,B⟩:=a9.out;rw[<-bh,<-bf];clear bh bf;have a0:Hid (A.there a 0 19):=dP B.2.1;have aL:=av (aN.1 aZ).1;have ba:Hid (∃wf,wf=A.setCells a 0 (DY i y c (some ⟨l,0,none⟩) 4 r).toArray.toList/\Hid (wf.rangeAt a 0 (DY i y c (some ⟨l,0,none⟩) 4 r)/\bG (λaW=>aW=a) A wf)):=⟨_,rfl,World.rangeAt_setCells_same A a 0 _ a0,(eM a _ 0 A).1⟩;refine wpList_store_mid rfl 237 (.tmp 12) (.tmp 49) rfl a 0 (DY i y c (some ⟨l,0,none⟩) 4 r).toArray rfl rfl a0 jc (F7 i y c _ 4 r) ?_;obtain⟨wf,bi,al⟩:=ba.out;rw[<-bi];clear bi a0 ba a9;have bs:Hid (ap ab wf):=B.1.trans (al.2.below B.1.size λb bd e=>by have:=B.2.2;omega);have bt:Hid (∀W:ah,wf.heap[a]?=W.heap[a]? ->W.rangeAt a 0 (DY i y c (some ⟨l,0,none⟩) 4 r)):=λW dg g v be=>by
     have:=al.1 g v be;simp only[World.cell?,<-dg]at this ⊢;exact this
    have bN:=av B.2.2;have a7:Hid (a<wf.heap.size):=aY (aN.1 B.2.1).1 al.2.size;have c0:ai wf a 0 (ae i):=al.1 0 _ rfl;clear B al;obtain⟨ma,aV,aS,⟨bz,f7⟩,c4⟩:=cn.out i y c l r ab wf P.2.2.2.2 bs;have c2:=av (⟨P.2.1,P.2.2.1⟩:_/\_);have dV:(i:Int)<=1000000:=by have:=P.2.2.2.1;omega
    have dU:(0:Int)<=(i:Int):=by omega
    have dX:IntKind.i64.wrap ((i:Int)+1)=(i:Int)+1:=by
     rw[IntKind.wrap_i64];omega
    clear P cn;go_upto_region 9 with fail;have ca:Hid (ap wf wf.drew):=(aE _ _).drew;have Q:wf.drew.cell? ⟨z,7,none⟩=some (af ma aV aS)/\wf.drew.cell? ⟨a,0,none⟩=some (ae i):=⟨bz,c0⟩;clear bz c0 f7;refine wp_region_noPanic ?_;refine ke (λw'=>ai w' z 7 (af ma aV aS)/\ai w' a 0 (ae i)) 13 (by kernel_rfl) ?_
    try simp only[fL]
    refine bq (i:=0) (v:= ?_) rfl (by kernel_rfl) (by kernel_rfl) (by kernel_rfl) (by kernel_rfl) (λ_ _ _ k=>k) rfl ?_ Q ?_;rotate_left
    ·intro w' s
     try dsimp only at s
     go_simp
     try with_reducible rfl
    try simp only[Act.put]
    refine bq (i:=1) (v:= ?_) rfl (by kernel_rfl) (by kernel_rfl) (by kernel_rfl) (by kernel_rfl) (λ_ _ _ k=>k) rfl ?_ Q ?_;rotate_left
    ·intro w' s
     try dsimp only at s
     go_simp
     try with_reducible rfl
    try simp only[Act.put]
    refine bq (i:=2) (v:= ?_) rfl (by kernel_rfl) (by kernel_rfl) (by kernel_rfl) (by kernel_rfl) (λ_ _ _ k=>k) rfl ?_ Q ?_;rotate_left
    ·intro w' s
     try dsimp only at s
     go_simp
     try with_reducible rfl
    try simp only[Act.put]
    refine bq (i:=3) (v:= ?_) rfl (by kernel_rfl) (by kernel_rfl) (by kernel_rfl) (by kernel_rfl) (λ_ _ _ k=>k) rfl ?_ Q ?_;rotate_left
    ·intro w' s
     try dsimp only at s
     go_simp
     try with_reducible rfl
    try simp only[Act.put]
    refine bq (i:=4) (v:= ?_) rfl (by kernel_rfl) (by kernel_rfl) (by kernel_rfl) (by kernel_rfl) (λ_ _ _ k=>k) rfl ?_ Q ?_;rotate_left
    ·intro w' s
     try dsimp only at s
     go_simp
     try with_reducible rfl
    try simp only[Act.put]
    refine bq (i:=5) (v:= ?_) rfl (by kernel_rfl) (by kernel_rfl) (by kernel_rfl) (by kernel_rfl) (λ_ _ _ k=>k) rfl ?_ Q ?_;rotate_left
    ·intro w' s
     try dsimp only at s
     go_simp
     try with_reducible rfl
    try simp only[Act.put]
    refine bq (i:=6) (v:= ?_) rfl (by kernel_rfl) (by kernel_rfl) (by kernel_rfl) (by kernel_rfl) (λ_ _ _ k=>k) rfl ?_ Q ?_;rotate_left
    ·intro w' s
     try dsimp only at s
     go_simp
     try with_reducible rfl
    try simp only[Act.put]
    refine bq (i:=7) (v:= ?_) rfl (by kernel_rfl) (by kernel_rfl) (by kernel_rfl) (by kernel_rfl) (λ_ _ _ k=>k) rfl ?_ Q ?_;rotate_left
    ·intro w' s
     try dsimp only at s
     go_simp
     try with_reducible rfl
    try simp only[Act.put]
    refine bq (i:=8) (v:= ?_) rfl (by kernel_rfl) (by kernel_rfl) (by kernel_rfl) (by kernel_rfl) (λ_ _ _ k=>k) rfl ?_ Q ?_;rotate_left
    ·intro w' s
     try dsimp only at s
     go_simp
     try with_reducible rfl
    try simp only[Act.put]
    refine bq (i:=9) (v:= ?_) rfl (by kernel_rfl) (by kernel_rfl) (by kernel_rfl) (by kernel_rfl) (λ_ _ _ k=>k) rfl ?_ Q ?_;rotate_left
    ·intro w' s
     try dsimp only at s
     go_simp
     try with_reducible rfl
    try simp only[Act.put]
    refine dv (i:=10) (by kernel_rfl) rfl rfl (λK aH=>?_) (by decide)
    go_simp
    refine(c4 _ ca).mono ?_;rintro e bn ⟨bj,bl,bk,rfl,a3⟩;have bI:Hid (bG aF wf bn):=(aM ca aF).trans a3.1 λ_ _ e=>e;have bc:ai bn z 7 (af ma aV aS)/\ai bn a 0 (ae i):=⟨a3.2.1,(bI.cell 0 a7 (λe=>by have:=cp a e;have:=aG.size;have:=bN.out;omega)).trans Q.2⟩;have f7:=a3.2.2.1;have co:=av a3.2.2.2;have cj:Hid (bG aF wf (bn.setCell ⟨z,7,none⟩ (af bj bl bk))):=bI.trans (bM _ _ _ _) λb _ e=>by rw[e];exact c9
    refine aH _ _ (λ_=>bc) (λ_=>?_);clear aH K a3 Q
    try simp only[Act.put,cq,dI,dH]
    refine dv (i:=11) (by kernel_rfl) rfl rfl (λK aH=>?_) (by decide)
    go_simp
    refine aH _ _ (λ_=>bc) (λ_=>?_);clear aH K
    try simp only[Act.put,cq,dI,dH]
    refine bq (i:=12) (v:= ?_) rfl (by kernel_rfl) (by kernel_rfl) (by kernel_rfl) (by kernel_rfl) (λ_ _ _ k=>k) rfl ?_ bc ?_;rotate_left
    ·intro w' s
     try dsimp only at s
     go_simp
     try with_reducible rfl
    try simp only[Act.put,cq]
    have bz:=bc.1;refine j9 (by kernel_rfl) rfl rfl (by kernel_rfl) (λK aH=>?_)
    go_simp
    refine aH _ _ (NoPanic.normal ?_);clear aH K bz f7 bc
    try simp only[Act.put,cq,dI,dH]
    have cx:Hid (∃V,V=bn.setCell ⟨z,7,none⟩ (af bj bl bk)/\Hid (bQ i y c l r V/\bG aF wf V)):=⟨_,rfl,co,cj⟩;obtain⟨V,cX,a4⟩:=cx.out;rw[<-cX];clear cX cx co bI cj;have bO:=av a4.2.size;have bu:Hid (∀b,w.heap.size<=b->¬aF b):=λb bd e=>by have:=cp b e;omega
    have cw:=av aG.size;have bL:=av ((a4.2.block j (aY aL bs.size) (bu j (by rw[aa.out];exact ay _))).trans ((bs.block j aL).trans aZ));have bx:=av (a4.2.block a a7 (bu a (by have:=bN.out;have:=cw.out;omega)));have cb:=av (bt V bx.symm);have dJ:ai V a 18 (af (some ⟨l,0,none⟩) 4 r):=cb 18 _ rfl;have cz:Hid (∃u m,(u=V.alloc (.cells #[af (some ⟨l,0,none⟩) 4 r,ae self,ae next,af none 0 0,af none 0 0,af none 0 0,.bool false] 243)/\m=V.heap.size)/\Hid (ap V u/\u.heap[m]?=some (.cells #[af (some ⟨l,0,none⟩) 4 r,ae self,ae next,af none 0 0,af none 0 0,af none 0 0,.bool false] 243)/\V.heap.size<=m)):=⟨_,_,⟨rfl,rfl⟩,aT _ _,aI _ _,ay _⟩;go_upto_region 11 with fail;obtain⟨u,m,⟨cY,aQ⟩,ad⟩:=cz.out;rw[<-cY,<-aQ];clear cY aQ cz dJ;have N:=av (bt u (((ad.1.block a (aY a7 bO)).trans bx).symm));have dr:ai u a 5 (ae c.1.1.1.1):=N 5 _ rfl;have ds:ai u a 6 (ae c.1.1.1.2.1):=N 6 _ rfl;have dx:ai u a 7 (ag c.1.1.1.2.2):=N 7 _ rfl;have dz:ai u a 8 (af c.1.1.2.1.1 c.1.1.2.2.length c.1.1.2.1.2):=N 8 _ rfl;have dA:ai u a 9 (ae c.1.2.1.1.1):=N 9 _ rfl;have dB:ai u a 10 (ae c.1.2.1.1.2.1):=N 10 _ rfl;have dC:ai u a 11 (ag c.1.2.1.1.2.2):=N 11 _ rfl;have dD:ai u a 12 (af c.1.2.1.2.1.1 c.1.2.1.2.2.length c.1.2.1.2.1.2):=N 12 _ rfl;have dE:ai u a 13 (af c.2.1.1 c.2.2.length c.2.1.2):=N 13 _ rfl;have dF:ai u a 14 (ae c.1.2.2.1.1):=N 14 _ rfl;have dt:ai u a 15 (ae c.1.2.2.1.2.1):=N 15 _ rfl;have du:ai u a 16 (ag c.1.2.2.1.2.2):=N 16 _ rfl;have dw:ai u a 17 (af c.1.2.2.2.1.1 c.1.2.2.2.2.length c.1.2.2.2.1.2):=N 17 _ rfl;have ch:=av (ci i y c l r V u m a4.1 ad.1 ad.2.2 ad.2.1);go_wp2_with fail;refine ch.mono ?_;rintro e aJ ⟨f,rfl,a5⟩;clear dr ds dx dz dA dB dC dD dE dF dt du dw ch;have dd:=av a5.1.size;have dc:=av ad.1.size;have an:Hid (j≠m/\j≠l/\a≠m/\a≠l/\j<u.heap.size/\a<u.heap.size/\w.heap.size<=j/\w.heap.size<=a):=by
     have cJ:=aa.out;have cK:=c6.out;have df:=c2.out;have dN:=bN.out;have dO:=a7.out;have dQ:=bO.out;have dR:=ad.2.2;have dS:=dc.out;have dT:=aL.out;have dL:=bs.size;have dM:=cw.out;exact⟨by omega,by omega,by omega,by omega,by omega,by omega,by omega,by omega⟩
    have cr:=av ((a5.1.block j an.2.2.2.2.1 (λe=>by
     rcases e with e|e|e
     ·exact bu j an.2.2.2.2.2.2.1 e
     ·exact an.1 e
     ·exact an.2.1 e)).trans ((ad.1.block j (aN.1 bL).1).trans bL))
    have cc:=av (bt aJ (((a5.1.block a an.2.2.2.2.2.1 (λe=>by
     rcases e with e|e|e
     ·exact bu a an.2.2.2.2.2.2.2 e
     ·exact an.2.2.1 e
     ·exact an.2.2.2.1 e)).trans ((ad.1.block a (aY a7 bO)).trans bx)).symm))
    have cu:=av a5.2;clear a5 N cb bL bx a4 ad bt ci;have cA:Hid (∃t h,(t=aJ.alloc (.cells #[ae 0,ae 0,ag ⟨#[]⟩,af none 0 0,ae f,af none 0 0,af none 0 0,af none 0 0] 200)/\h=aJ.heap.size)/\Hid (ap aJ t/\t.heap[h]?=some (.cells #[ae 0,ae 0,ag ⟨#[]⟩,af none 0 0,ae f,af none 0 0,af none 0 0,af none 0 0] 200)/\aJ.heap.size<=h)):=⟨_,_,⟨rfl,rfl⟩,aT _ _,aI _ _,ay _⟩;go_upto_region 12 with fail;obtain⟨t,h,⟨cU,cQ⟩,x⟩:=cA.out;rw[<-cU,<-cQ];clear cU cQ cA;have t4:ai t h 4 (ae f):=aj x.2.1 4;have bv:=av ((x.1.block j (aN.1 cr).1).trans cr);have aK:Hid (j≠h/\a≠h/\a<aJ.heap.size):=by
     have cJ:=an.out;have cK:=dd.out;have df:=x.2.2;exact⟨by omega,by omega,by omega⟩
    by_cases aR:f=0\/f=1
    ·by_cases bB:f=0
     case' pos=>have cM:(f==0)=true:=cR.2 bB
     case' neg=>
      have cM:(f==0)=false:=dK.2 bB;have dh:(f==1)=true:=cR.2 (aR.resolve_left bB)
     all_goals
      have a8:=av bv.out;have O:=av x.2.1;obtain⟨v0,v1,v2,cZ,sa,sl,sc,pa,pl,pc,ka,kl,kc,aQ,cS⟩:=cu.out.1 aR;have bP:=av cS;have bH:=av ((x.1.block m (aN.1 aQ).1).trans aQ);have di:m≠h:=by
       have cJ:=(aN.1 aQ).1;have cK:=x.2.2;omega
      have dW:h≠m:=λe=>di e.symm;clear aQ cS bv aR bB;have d3:ai t m 3 (af sa sl sc):=aj bH 3;have d4:ai t m 4 (af pa pl pc):=aj bH 4;have d5:ai t m 5 (af ka kl kc):=aj bH 5;have cG:=aj O 5;have cH:=aj O 6;have cI:=aj O 7;simp only[dl,dy]at cG cH cI;have de:∀g,t.frozen? ⟨h,g,none⟩=false:=λg=>by simp[World.frozen?,O.out]
      go_upto_region 13 with fail;go_region_held3 (λW=>W.cell? ⟨m,3,none⟩=some (af sa sl sc)/\W.cell? ⟨m,4,none⟩=some (af pa pl pc)/\W.cell? ⟨m,5,none⟩=some (af ka kl kc)) (first|(go_keep;done)|exact⟨d3,d4,d5⟩) ((fail));have cB:Hid (∃R,R=((t.setCell ⟨h,5,none⟩ (af sa sl sc)).setCell ⟨h,6,none⟩ (af pa pl pc)).setCell ⟨h,7,none⟩ (af ka kl kc)/\Hid (bG (λb=>b=h) t R/\R.heap[h]?=some (.cells #[ae 0,ae 0,ag ⟨#[]⟩,af none 0 0,ae f,af sa sl sc,af pa pl pc,af ka kl kc] 200))):=⟨_,rfl,bG.trans (bG.trans (bM t h 5 _) (bM _ h 6 _) λ_ _ e=>e) (bM _ h 7 _) λ_ _ e=>e,Jb O _ _ _⟩;obtain⟨R,cV,X⟩:=cB.out;rw[<-cV];clear cV cB d3 d4 d5 cG cH cI de t4;have cs:=av ((X.1.block j (aN.1 a8).1 aK.1).trans a8);go_upto_region 14 with fail;have S:=av (λ(g:Nat)(v:ax)(be:(DY i y c (some ⟨l,0,none⟩) 4 r)[g]?=some v)=>(X.1.cell (0+g) (aY aK.2.2 x.1.size) aK.2.1).trans ((x.1.cell (p:=⟨a,0+g,none⟩) aK.2.2).trans (cc g v be)));have b0:ai R a 1 (ae y.1.1):=S 1 _ rfl;have b1:ai R a 2 (ae y.1.2.1):=S 2 _ rfl;have b2:ai R a 3 (ag y.1.2.2):=S 3 _ rfl;have b3:ai R a 4 (af y.2.1.1 y.2.2.length y.2.1.2):=S 4 _ rfl;have ao:=aj X.2 0;have ar:=aj X.2 1;have az:=aj X.2 2;have aA:=aj X.2 3;simp only[dl,dy]at ao ar az aA;have b8:∀g,R.frozen? ⟨h,g,none⟩=false:=λg=>by simp[World.frozen?,X.out.2]
      have bb:Hid (∃C,C=(((R.setCell ⟨h,0,none⟩ (ae y.1.1)).setCell ⟨h,1,none⟩ (ae y.1.2.1)).setCell ⟨h,2,none⟩ (ag y.1.2.2)).setCell ⟨h,3,none⟩ (af y.2.1.1 y.2.2.length y.2.1.2)/\Hid (bG (λb=>b=h) R C/\C.heap[h]?=some (.cells #[ae y.1.1,ae y.1.2.1,ag y.1.2.2,af y.2.1.1 y.2.2.length y.2.1.2,ae f,af sa sl sc,af pa pl pc,af ka kl kc] 200))):=⟨_,rfl,nb R h 0 _ _ _ _,GD X.2 _ _ _ _⟩;go_upto_region 15 with fail;obtain⟨C,bg,o⟩:=bb.out;rw[<-bg];clear bg bb b0 b1 b2 b3 ao ar az aA b8 S;have q:=av ((o.1.block j (aN.1 cs).1 aK.1).trans cs);have ao:=aj o.2 0;have ar:=aj o.2 1;have az:=aj o.2 2;have aA:=aj o.2 3;have b4:=aj o.2 4;have b5:=aj o.2 5;have b6:=aj o.2 6;have b7:=aj o.2 7;have D:=aj q 0;have E:=aj q 1;have F:=aj q 2;have G:=aj q 3;have H:=aj q 4;have I:=aj q 5;have J:=aj q 6;have M:=aj q 7;simp only[dl,dy]at ao ar az aA b4 b5 b6 b7 D E F G H I J M;have aX:∀g,C.frozen? ⟨j,g,none⟩=false:=λg=>by simp[World.frozen?,q.out]
      go_wp2_with fail;rw[Dc];refine aB (v:=.tuple #[PH y.1.1 y.1.2.1 y.1.2.2 y.2.1.1 y.2.2.length y.2.1.2 f sa sl sc pa pl pc ka kl kc,ae 0]) (results_cell_tmp results125 rfl (CA _ rfl (dP q)) rfl) rfl ?_;refine am ⟨i,y,c,f,sa,sl,sc,pa,pl,pc,ka,kl,kc,rfl,rfl,by first|rfl|exact hr,aJ,C,bP,((x.1.trans (X.1.below x.1.size λb bd e=>by have:=x.2.2;omega)).trans (o.1.below (aD x.1.size X.1.size) λb bd e=>by have:=x.2.2;omega)),?_⟩;rw[<-aa.out];exact(eM j _ 0 C).1.trans (aM ((aE _ _).drew) _) λ_ _ e=>e
    ·have bP:=av (cu.2 aR);have cM:(f==0)=false:=dK.2 λe=>aR (ak e);have dh:(f==1)=false:=dK.2 λe=>aR (am e);have a8:=av bv.out;have O:=av x.2.1;clear aR t4 bv;have t4:ai t h 4 (ae f):=aj O 4;go_upto_region 14 with fail;clear t4;have S:=av (λg v be=>(x.1.cell (p:=⟨a,0+g,none⟩) aK.2.2).trans (cc g v be));have b0:ai t a 1 (ae y.1.1):=S 1 _ rfl;have b1:ai t a 2 (ae y.1.2.1):=S 2 _ rfl;have b2:ai t a 3 (ag y.1.2.2):=S 3 _ rfl;have b3:ai t a 4 (af y.2.1.1 y.2.2.length y.2.1.2):=S 4 _ rfl;have ao:=aj O 0;have ar:=aj O 1;have az:=aj O 2;have aA:=aj O 3;simp only[dl,dy]at ao ar az aA;have b8:∀g,t.frozen? ⟨h,g,none⟩=false:=λg=>by simp[World.frozen?,O.out]
     have bb:Hid (∃C,C=(((t.setCell ⟨h,0,none⟩ (ae y.1.1)).setCell ⟨h,1,none⟩ (ae y.1.2.1)).setCell ⟨h,2,none⟩ (ag y.1.2.2)).setCell ⟨h,3,none⟩ (af y.2.1.1 y.2.2.length y.2.1.2)/\Hid (bG (λb=>b=h) t C/\C.heap[h]?=some (.cells #[ae y.1.1,ae y.1.2.1,ag y.1.2.2,af y.2.1.1 y.2.2.length y.2.1.2,ae f,af none 0 0,af none 0 0,af none 0 0] 200))):=⟨_,rfl,nb t h 0 _ _ _ _,GD O _ _ _ _⟩;go_upto_region 15 with fail;obtain⟨C,bg,o⟩:=bb.out;rw[<-bg];clear bg bb b0 b1 b2 b3 ao ar az aA b8 S;have q:=av ((o.1.block j (aN.1 a8).1 aK.1).trans a8);have ao:=aj o.2 0;have ar:=aj o.2 1;have az:=aj o.2 2;have aA:=aj o.2 3;have b4:=aj o.2 4;have b5:=aj o.2 5;have b6:=aj o.2 6;have b7:=aj o.2 7;have D:=aj q 0;have E:=aj q 1;have F:=aj q 2;have G:=aj q 3;have H:=aj q 4;have I:=aj q 5;have J:=aj q 6;have M:=aj q 7;simp only[dl,dy]at ao ar az aA b4 b5 b6 b7 D E F G H I J M;have aX:∀g,C.frozen? ⟨j,g,none⟩=false:=λg=>by simp[World.frozen?,q.out]
     go_wp2_with fail;rw[Dc];refine aB (v:=.tuple #[PH y.1.1 y.1.2.1 y.1.2.2 y.2.1.1 y.2.2.length y.2.1.2 f none 0 0 none 0 0 none 0 0,ae 0]) (results_cell_tmp results125 rfl (ib _ rfl (dP q)) rfl) rfl ?_;refine am ⟨i,y,c,f,none,0,0,none,0,0,none,0,0,rfl,rfl,by first|rfl|exact hr,aJ,C,bP,(x.1.trans (o.1.below x.1.size λb bd e=>by have:=x.2.2;omega)),?_⟩;rw[<-aa.out];exact(eM j _ 0 C).1
theorem KM{c:Type}(b:List.Sublist l r)(f:m->List c):List.Sublist (l.flatMap f) (r.flatMap f):=by
 induction b with
 | slnil=>exact List.Sublist.refl _
 | cons a _ ih=>
  simp only[bK];exact ih.trans (List.sublist_append_right _ _)
 | cons_cons a _ ih=>
  simp only[bK];exact List.Sublist.append (List.Sublist.refl _) ih
theorem N0(b:List.Sublist l r)(f:m->Int)(c:∀a,0<=f a):(l.map f).sum<=(r.map f).sum:=by
 induction b with
 | slnil=>exact ki _
 | cons a _ ih=>
  simp only[bz,di];have:=c a;omega
 | cons_cons a _ ih=>
  simp only[bz,di];omega
theorem kL.erase{s:Tm (N+1)}{ms:List (Tm (N+1))}(l:kL (N+1) ws nm room (d::vs) (s::ms))(i:Nat):kL (N+1) ws nm room (d::vs.eraseIdx i) (s::ms.eraseIdx i):=by
 obtain⟨f,o,p,v,q,r,t,u⟩:=l;have m:vs.length=ms.length:=by simpa using f.1
 have n:List.Sublist (d::vs.eraseIdx i) (d::vs):=(List.eraseIdx_sublist vs i).cons_cons d;have j:List.Sublist (s::ms.eraseIdx i) (s::ms):=(List.eraseIdx_sublist ms i).cons_cons s;refine⟨⟨by simp[List.length_eraseIdx,m],λc g e b a=>?_⟩,(KM n _).nodup o,λe a=>p e (j.subset a),?_,q,r,t,u⟩
 ·cases c with
  | zero=>
   simp only[dl,ir]at b a;exact f.2 0 g e (by simp[b]) (by simp[a])
  | succ c=>
   simp only[dy,List.getElem?_eraseIdx]at b a;by_cases h:c<i
   ·rw[if_pos h]at b a;exact f.2 (c+1) g e (by simpa using b) (by simpa using a)
   ·rw[if_neg h]at b a;exact f.2 (c+2) g e (by simpa using b) (by simpa using a)
 ·have:=N0 j (sz (N+1)) λk=>(fH (N+1) k).1;omega
section
variable {base pb:Nat} {name:aq} {room:Int} {N:Nat} {s:Tm (N+1)} {ms:List (Tm (N+1))} {nk:Nat} {M:aU} {w:ah} {ws:List Wd} {nm:bj} {sv:Wd} {vs:List Wd} {ma:aw} {mc:Nat} {Mh:aU}
theorem cU.dropped(a:cU base pb name room (N+1) s ms [] nk M w ws nm sv vs ma mc Mh)(i:Nat){w1:ah}{g:Nat}(x:¬Mh g)(l:bG (λb=>b=g) w w1)(v:ku Mh ma (vs.eraseIdx i) mc w1)(u:M g):cU base pb name room (N+1) s (ms.eraseIdx i) [] nk M (w1.setCell ⟨pb,7,none⟩ (.slice ma (vs.eraseIdx i).length mc)) ws nm sv (vs.eraseIdx i) ma mc Mh/\ci M w (w1.setCell ⟨pb,7,none⟩ (.slice ma (vs.eraseIdx i).length mc)):=by
 obtain⟨m,z⟩:=a.box0;have q:dY base (PL pb name sv (af ma vs.length mc)) room ws nm Mh w1:=a.heap.kept (jT l) λb r _ c=>x (by rw[<-c];exact r);have k:=bH w1 pb 7 (.slice ma (vs.eraseIdx i).length mc);have j:=a.has;simp only[dz,eD]at j;refine⟨⟨q.turn k λB A mp t=>?_,?_,?_,?_,a.names,a.inM,a.mailM⟩,?_⟩
 ·unfold World.setCell;simp[bQ,t]
 ·rcases v with d|⟨h,y,n,o,e,f,p⟩
  ·exact ak d
  ·exact am ⟨h,y,n,o,e,(k.block h (aN.1 f).1 λd=>e (by rw[d];exact m)).trans f,p⟩
 ·simp only[dz,eD];exact j.erase i
 ·simp[List.length_eraseIdx,a.len]
 ·refine ci.trans ((jT l).mono λb c=>?_) k λb _ c=>?_
  ·rw[c];exact u
  ·rw[c];exact a.inM pb m
theorem cU.delete(a:cU base pb name room (N+1) s ms [] nk M w ws nm sv vs ma mc Mh)(i:Nat)(H:i<ms.length)(G:ms.length<=1000):au 155 #[af ma vs.length mc,ae i,ae ((i:Int)+1)] w λe w'=>e=.returned (.slice ma (vs.eraseIdx i).length mc)/\Hid (bG M w w'/\ai w' pb 7 (af ma vs.length mc)/\w'.frozen? ⟨pb,7,none⟩=false/\ cU base pb name room (N+1) s (ms.eraseIdx i) [] nk M (w'.setCell ⟨pb,7,none⟩ (.slice ma (vs.eraseIdx i).length mc)) ws nm sv (vs.eraseIdx i) ma mc Mh/\ci M w (w'.setCell ⟨pb,7,none⟩ (.slice ma (vs.eraseIdx i).length mc))):=by
 have k:=a.len;obtain⟨E,m⟩:=a.box0;have f:(vs.eraseIdx i).length=vs.length-1:=by rw[List.length_eraseIdx,if_pos (by omega)]
 rcases a.mail with⟨_,e,_⟩|⟨g,n,u,rfl,d,x,y,z,A,B⟩
 ·rw[e]at k;simp at k;omega
 ·refine(zX g n mc i vs u w (by omega) x y (by omega) A B).mono ?_;rintro e w' ⟨rfl,o⟩;obtain⟨c,I,v,p,F,q⟩:=o;have j:=a.mailM _ rfl;have l:¬pb=g:=λe=>d (by rw[<-e];exact E);obtain⟨L,J,K,C,_⟩:=a.heap.box;obtain⟨_,_,_,r,t,_⟩:=PL.cells C;have D:=a.dropped i (w1:=w') (g:=g) d c (am ⟨g,n,v,rfl,d,p,by omega,z,by omega,by rw[f];exact q⟩) j;refine⟨by rw[f],c.mono λb _ e=>by rw[e];exact j,(c.cell 7 m l).trans r,?_,D⟩;have h:=t 7;unfold World.frozen? at h ⊢;rw[c.block pb m l];exact h
end
def rA(n:Nat)(room:Int)(l:List (Bh (n+1)))(name:aq)(self next:Int)(s:Tc)(ms:List Tc):Int:=
 if oI n l≠0 then oI n l else if (decide (1<=self) && decide (self<=99) && decide (1<=next) && decide (next<=92))=false then 1 else if (ou room l name self next s ms).isSome then 0 else 4
def mF(c:Nat)(sends:List (Int×Tc))(spawns:List (Int×aq×Tc))(links:List Int)(sa:aw)(sl sc:Nat)(pa:aw)(pl pc:Nat)(ka:aw)(kl kc:Nat)(P:aU)(w:ah):Prop:=
 ∃(f:Nat)(d:List (Int×Tm (f+1)))(e:List (Int×aq×Tm (f+1))),(d.length=sl/\e.length=pl/\links.length=kl)/\w.ownsRow c 250 5 (af sa sl sc) sl (d.flatMap λa=>Ou a.1 a.2)/\w.ownsRow c 247 6 (af pa pl pc) pl (e.flatMap λa=>Pv a.1 a.2.1 a.2.2)/\w.ownsRow c 3 1 (af ka kl kc) kl (links.map λg=>ae g)/\
  d.map (λa=>(a.1,cn _ a.2))=sends/\e.map (λa=>(a.1,a.2.1,cn _ a.2.2))=spawns/\(∀a∈d,bJ _ a.2=0/\In w.heap.size w _ a.2/\cE (λb=>c<=b/\P b) _ a.2)/\(∀a∈e,bJ _ a.2.2=0/\In w.heap.size w _ a.2.2/\cE (λb=>c<=b/\P b) _ a.2.2)/\∀b,((Value.slice sa sl sc).ownBlock=some b\/(Value.slice pa pl pc).ownBlock=some b\/(Value.slice ka kl kc).ownBlock=some b)->c<=b/\P b
theorem mF.kept{f:Nat}{sends:List (Int×Tc)}{spawns:List (Int×aq×Tc)}{links:List Int}{sa:aw}{sl sc:Nat}{pa:aw}{pl pc:Nat}{ka:aw}{kl kc:Nat}{P:aU}{w w':ah}(v:mF f sends spawns links sa sl sc pa pl pc ka kl kc P w){S:aU}(r:bG S w w')(o:∀q,f<=q->P q->q<w.heap.size->¬S q):mF f sends spawns links sa sl sc pa pl pc ka kl kc P w':=by
 obtain⟨u,H,I,x,y,z,A,B,C,g,h,i⟩:=v;have p:∀{e:Nat}{m:Tm e},In w.heap.size w e m->cE (λq=>f<=q/\P q) e m->In w'.heap.size w' e m:=λF G=>F.kee (r.mono (T:=λb=>S b/\b<w.heap.size) λb D q=>⟨q,D⟩) (G.mono λq c (a:S q/\q<w.heap.size)=>o q c.1 c.2 a.2 a.1);have l:∀{k:TypeId}{a e:Nat}{j:ax}{n:dG},w.ownsRow f k a j e n->(∀q,j.ownBlock=some q->f<=q/\P q)->w'.ownsRow f k a j e n:=λ{k a e j n} s t=>bB s r λq c=>by
  obtain⟨J,E⟩:=eI s q c;exact o q (t q c).1 (t q c).2 (aN.1 E).1
 exact⟨u,H,I,x,l y λq c=>i q (ak c),l z λq c=>i q (am (ak c)),l A λq c=>i q (am (am c)),B,C,λa d=>⟨(g a d).1,p (g a d).2.1 (g a d).2.2,(g a d).2.2⟩,λa d=>⟨(h a d).1,p (h a d).2.1 (h a d).2.2,(h a d).2.2⟩,i⟩
theorem mF.none(c:Nat)(P:aU)(w:ah):mF c [] [] [] none 0 0 none 0 0 none 0 0 P w:=
 ⟨0,[],[],⟨rfl,rfl,rfl⟩,eV _ _ _ _,eV _ _ _ _,eV _ _ _ _,rfl,rfl,λd b=>(by cases b),λd b=>(by cases b),λe a=>by
  rcases a with a|a|a<;>cases a⟩
def QD(r q:Nat)(name:aq)(room:Int)(s:Tc)(ms:List Tc)(o:Nat)(M:aU)(n:Nat)(l:List (Bh (n+1)))(self next:Int)(w:ah)(e:Ending)(w':ah):Prop:=
 (∃g,e=.returned (.tuple #[N3,ae g])/\Hid (g≠0/\g=rA n room l name self next (cn 13 s) (ms.map (cn 13))/\ap w w'))\/
  ∃(a:Tc)(f:Int)(sa:aw)(sl sc:Nat)(pa:aw)(pl pc:Nat)(ka:aw)(kl kc:Nat),e=.returned (.tuple #[PH a.1.1 a.1.2.1 a.1.2.2 a.2.1.1 a.2.2.length a.2.1.2 f sa sl sc pa pl pc ka kl kc,ae 0])/\Hid (∃b h d,rA n room l name self next (cn 13 s) (ms.map (cn 13))=0/\ou room l name self next (cn 13 s) (ms.map (cn 13))=some b/\f=b.fate/\cn 13 a=b.message/\bJ 13 a=0/\In w'.heap.size w' 13 a/\cE (λc=>w.heap.size<=c/\c<d) 13 a/\ci M w w'/\w.heap.size<d/\
   (∃i v p t u k m j,cU r q name room 13 i (ms.eraseIdx h) [] (o+402) (λc=>M c\/d<=c) w' v p t u k m j/\cn 13 i=b.state/\(ms.eraseIdx h).map (cn 13)=b.mail)/\mF (w.heap.size+1) b.sends b.spawns b.links sa sl sc pa pl pc ka kl kc (λ_=>True) w')
theorem O6(room self next:Int)(s m:Tc)(ms:List Tc)(c:Cl (n+1))(b:List Tc):fG room self next s m ms c b={fG room self next s s ms c b with message:=m}:=by
 unfold fG;cases qS self c.2.2 ⟨b,next,[],[],[],false⟩with
 | none=>rfl
 | some e=>
  cases d:tQ e.b self (n+1) c.1.2.2 with
  | none=>simp only[d]
  | some t=>
   simp only[d];by_cases a:(ms.map (sz 13)).sum+sz 13 t<=room
   ·simp only[if_pos a]
   ·simp only[if_neg a]
theorem Ic{next:Int}{m:Tc}{c:Cl (n+1)}{b:List Tc}(a:¬((fG room self next s m ms c b).fate=0\/(fG room self next s m ms c b).fate=1)):(fG room self next s m ms c b).sends=[]/\(fG room self next s m ms c b).spawns=[]/\(fG room self next s m ms c b).links=[]:=by
 unfold fG at a ⊢;cases hd:qS self c.2.2 ⟨b,next,[],[],[],false⟩with
 | none=>exact⟨rfl,rfl,rfl⟩
 | some d=>
  rw[hd]at a;cases f:tQ d.b self (n+1) c.1.2.2 with
  | none=>simp[f]
  | some t=>
   simp only[f]at a ⊢;by_cases e:(ms.map (sz 13)).sum+sz 13 t<=room
   ·simp only[if_pos e]at a;cases hst:d.stops<;>simp[hst]at a
   ·simp[if_neg e]
theorem Ib(room self next:Int)(s m:Tc)(ms:List Tc)(c:Cl (n+1))(b:List Tc):(fG room self next s m ms c b).mail=ms:=by
 unfold fG;cases qS self c.2.2 ⟨b,next,[],[],[],false⟩with
 | none=>rfl
 | some e=>
  cases d:tQ e.b self (n+1) c.1.2.2 with
  | none=>simp only[d]
  | some t=>
   simp only[d];by_cases a:(ms.map (sz 13)).sum+sz 13 t<=room
   ·simp only[if_pos a]
   ·simp only[if_neg a]
theorem rL.keptS{l:List (Tm D)}(b:rL D l B a w e h)(c:bG S w w')(g:∀q,a<=q->¬S q):rL D l B a w' e h:=by
 obtain⟨d,f⟩:=b.new;refine⟨b.bnd,b.tells,b.cap,⟨d,aY f c.size⟩,λn t m=>?_,λo=>?_⟩
 ·obtain⟨p,r,j⟩:=b.at' n t m;exact⟨p.kee c f (g e d),r.kee c (j.mono λs k=>g s k.1),j⟩
 ·have i:=b.free o;unfold World.frozen? at i ⊢;rw[c.block e f (g e d)];exact i
theorem yg{B:Nat}{p:aw}{l:List (Bh (n+1))}(j:iV (n+1) B w p l)(name:aq):∃e d g,MU (n+1) (gE (n+1) name l)=af e d g/\(gJ name l).length=d/\Lay B w 13 (fF (n+1)) (iP (n+1) B w) e (gJ name l)/\(gJ name l=[]\/∃b∈l,gJ name l=b.2.2):=by
 have k:∀(l:List (Bh (n+1))) b,gE (n+1) name l=some b->b∈l:=by
  intro l
  induction l with
  | nil=>intro b a;cases a
  | cons q l ih=>
   intro b a;simp only[gE]at a;split at a
   ·obtain rfl:=aG a;simp
   ·exact b8 _ (ih b a)
 unfold gJ;cases hb:gE (n+1) name l with
 | none=>exact⟨none,0,0,rfl,rfl,ak rfl,ak rfl⟩
 | some b=>
  have c:=k l b hb;refine⟨_,_,_,rfl,rfl,?_,am ⟨b,c,rfl⟩⟩;rcases j with f|⟨s,o,f,r,h⟩
  ·rw[f]at c;cases c
  ·obtain⟨m,i⟩:=dh c;exact((h m b i).2).2.2
theorem cU.step(X:cU a e name room 13 s ms [] h M w ws nm d vs ma u Mh)(l:List (Bh (n+1)))(ag:aw)(R B:Nat)(a9:iV (n+1) B w ag l)(U:B<=w.heap.size)(b8:l.length<=R)(bo:R<=maxLen)(bP:lj (n+1) l=true->(aF (n+6) (cW n l)).length<=2097152)(V:∀b,M b->b<w.heap.size)(bQ:∀W,bG M w W->iV (n+1) B W ag l)(cA:h<=92000)(cv:ms.length<=999)(cw:a<=w.heap.size)(self next:Int):au 125 #[aC e,af ag l.length R,ae self,ae next] w (QD a e name room s ms h M n l self next w):=by
 obtain⟨cc,cd⟩:=X.box0 (N:=12);obtain⟨cL,cD,cH,bR,_⟩:=X.heap.box;obtain⟨bD,_,_,ct,cu,_⟩:=PL.cells bR;obtain⟨a1,bF,bh,bZ,bX,b0,bY⟩:=yg a9 name;have cz:R<=9223372036854775807:=by unfold maxLen at bo;omega
 have bm:oI n l=0->(∀c∈gJ name l,qI c)/\(gJ name l).length<=6:=λy=>by
  obtain⟨_,bp⟩:=GC y;rcases bY with i|⟨b,z,i⟩
  ·rw[i];exact⟨λc bT=>(by cases bT),aK _⟩
  ·rw[i];exact⟨(bp b z).2,(bp b z).1⟩
 have a7:∀(k:Nat)(t:Tc),(ms.map (cn 13))[k]?=some t->k<ms.length:=λk t ay=>by
  have:=(aZ.1 ay).1;simpa using this
 refine(Jk e name ag l.length R self next (oI n l) a1 bF bh w (td (gJ name l) (cn 13 s) (ms.map (cn 13)) 0=none)
  (λk p c C K A=>∃q G J,ap w A/\(1<=self/\self<=99/\1<=next/\next<=92)/\oI n l=0/\td (gJ name l) (cn 13 s) (ms.map (cn 13)) 0=some (k,c,q)/\c∈gJ name l/\(ms.map (cn 13))[k]?=some (cn 13 p)/\bJ 13 p=0/\In A.heap.size A 13 p/\cE (λg=>w.heap.size<g/\g≠C) 13 p/\rL (G+1) J q (w.heap.size+1) A C K)
  (λk p c C K A=>∃q G J aV aL aQ aS aG aI av,cU a e name room 13 s (ms.eraseIdx k) [] h M A aV aL aQ aS aG aI av/\ci M w A/\(1<=self/\self<=99/\1<=next/\next<=92)/\oI n l=0/\td (gJ name l) (cn 13 s) (ms.map (cn 13)) 0=some (k,c,q)/\c∈gJ name l/\(ms.map (cn 13))[k]?=some (cn 13 p)/\bJ 13 p=0/\In A.heap.size A 13 p/\cE (λg=>w.heap.size<g/\g≠C) 13 p/\rL (G+1) J q (w.heap.size+1) A C K)
  (λk p c f sa sl sc pa pl pc ka kl kc T=>∃q ai,td (gJ name l) (cn 13 s) (ms.map (cn 13)) 0=some (k,c,q)/\(ms.map (cn 13))[k]?=some (cn 13 p)/\bJ 13 p=0/\In T.heap.size T 13 p/\cE (λg=>w.heap.size<g/\g<ai) 13 p/\w.heap.size<ai/\ci M w T/\f=(fG room self next (cn 13 s) (cn 13 s) ((ms.eraseIdx k).map (cn 13)) c q).fate/\
   (∃S aV aL aQ aS aG aI av,cU a e name room 13 S (ms.eraseIdx k) [] (h+402) (λg=>M g\/ai<=g) T aV aL aQ aS aG aI av/\cn 13 S=(fG room self next (cn 13 s) (cn 13 s) ((ms.eraseIdx k).map (cn 13)) c q).state)/\
   mF (w.heap.size+1) (fG room self next (cn 13 s) (cn 13 s) ((ms.eraseIdx k).map (cn 13)) c q).sends (fG room self next (cn 13 s) (cn 13 s) ((ms.eraseIdx k).map (cn 13)) c q).spawns (fG room self next (cn 13 s) (cn 13 s) ((ms.eraseIdx k).map (cn 13)) c q).links sa sl sc pa pl pc ka kl kc (λ_=>True) T)
  _ M cd V (X.inM e cc) rfl ?_ bD ?_ ?_ ?_ ?_).mono ?_
 ·intro W r;refine(Me n l ag R b8 bo B W (a9.below (r.mono U)) (aD U r.size) bP).mono ?_;rintro i Q ⟨p,rfl,D⟩;exact⟨_,_,_,_,_,_,rfl,D.1⟩
 ·intro W _ r;refine(vE (n+1) name l ag R l.length B W rfl (by omega) (aD U r.size) (a9.below (r.mono U))).mono ?_;rintro i Q ⟨rfl,z⟩;exact⟨by rw[bZ],z⟩
 ·intro W y E r;simp only[aO,cT]at E;obtain⟨ba,b9⟩:=bm y;have bl:=DZ (X.later (N:=12) r) (gJ name l) a1 bh B ((cZ (eL (n+1)) 13 (fF (n+1)) a1).below (r.mono U) b0) (aD U r.size) ba (by omega) (by omega) (by omega);rw[bX]at bl;refine bl.mono ?_;rintro i Q (⟨bN,rfl,D⟩|⟨k,p,c,C,K,rfl,D⟩)
  ·exact ak ⟨rfl,D,bN⟩
  ·obtain⟨q,G,J,L,O,F,P,bs,aa,ab,I⟩:=D.out;have cj:=r.size;have ao:=I.new;have a6:=a7 k _ F;exact am ⟨k,p,c,C,K,rfl,bs,by omega,ao.2,by omega,q,G,J,r.trans (bs.mono cj),⟨E.1.1.1,E.1.1.2,E.1.2,E.2⟩,y,L,O,F,P,aa,ab.mono λg m=>⟨by omega,m.2⟩,I.mono (by omega)⟩
 ·rintro k p c C K A W ⟨q,G,J,a2,Y,y,L,O,F,P,aa,ab,I⟩ r;have a3:=a2.trans (r.mono a2.size);have a6:=a7 k _ F;obtain⟨cM,cF,cI,bS,_⟩:=(X.later (N:=12) a3).heap.box;obtain⟨_,_,_,bE,bH,_⟩:=PL.cells bS;refine⟨ma,vs.length,u,⟨bE,bH 7⟩,λbC aA=>?_⟩;have bi:=a3.trans (aA.mono a3.size);refine((X.later (N:=12) bi).delete (N:=12) k a6 (by omega)).mono ?_;rintro i Q ⟨rfl,D⟩;obtain⟨cl,cm,co,cp,bd⟩:=D.out;have cf:=a2.size;refine⟨ma,_,u,rfl,cl,cm,co,q,G,J,ws,nm,d,_,ma,u,Mh,cp,(bA bi M).trans bd λ_ _ i=>i,Y,y,L,O,F,P,?_,ab,?_⟩
  ·exact(((aa.below r).mono r.size |>.below aA).mono aA.size).kee (iD bd) (ab.mono λg m j=>by have:=V g j;omega)
  ·exact((I.keptS (aM r (λ_=>False)) (λ_ _ i=>i)).keptS (aM aA (λ_=>False)) (λ_ _ i=>i)).keptS (iD bd) λg m j=>by have:=V g j;omega
 ·rintro k p c C K A W aj ⟨q,G,J,aV,aL,aQ,aS,aG,aI,av,cb,a8,Y,y,L,O,F,P,aa,ab,I⟩ r cx bk;obtain⟨ba,b9⟩:=bm y;have ad:=I.keptS (aM r (λ_=>False)) (λ_ _ i=>i);have ao:=I.new;have cf:=a8.size;have ch:=r.size;have a6:=a7 k _ F;have cy:aj<W.heap.size:=(aN.1 bk).1;have b2:eJ (w.heap.size+1) aj self n G 0 next ⟨q,next,[],[],[],false⟩ W J C K [] [] (af none 0 0) (af none 0 0) (af none 0 0):=by
   refine⟨bk,⟨by omega,by omega,ao.1,ad.new.2,by omega⟩,ad.bnd,ad.tells,λZ j x=>⟨(ad.at' Z j x).1,(ad.at' Z j x).2.1,(In.offB (I.at' Z j x).2.2 (I.at' Z j x).2.1).mono λg m=>⟨m.1.1,λv=>?_⟩⟩,ad.free,eV _ _ _ _,eV _ _ _ _,eV _ _ _ _,rfl,rfl,λj x=>(by cases x),λj x=>(by cases x),⟨⟨λi=>(by cases i),λi=>(by cases i),λi=>(by cases i)⟩,⟨λi=>(by cases i),λi=>(by cases i),λi=>(by cases i)⟩,λg=>⟨λi=>(by cases i),λi=>(by cases i)⟩⟩,⟨aK _,aK _,aK _,by simp,Y.2.2.1,Y.2.2.2⟩⟩;rcases v with v|v|v|v|v
   ·have:=m.2;omega
   ·exact m.1.2 v
   ·cases v
   ·cases v
   ·cases v
  have b7:bG M w W:=(iD a8).trans (aM r (λ_=>False)) λ_ _ i=>i.elim;have bW:iP (n+1) B W c:=by
   obtain⟨_,_,_,_,_,b1,_⟩:=yg (bQ W b7) name;rcases b1 with i|⟨g,o,i,m,bV⟩
   ·rw[i]at O;cases O
   ·obtain⟨Z,b6⟩:=dh O;exact(bV Z c b6).2
  have bU:iP (n+1) (w.heap.size+1) W c:=(eL (n+1)).mono (by omega) bW;have b3:(ms.eraseIdx k).length<=999:=by
   have:=List.length_eraseIdx_le ms k;omega
  have a5:=Et (b:=q) (cb.later (N:=12) r) b2 rfl c bU (ba c O) ⟨Y.1,Y.2.1⟩ (λg j=>by have:=V g j;omega) (by omega) (by omega) b3;have b4:au 156 #[aC e,QI c,aC aj] W _:=a5;refine b4.mono ?_;rintro i Q ⟨f,rfl,aY,a0,⟨S,aW,aP,aR,aT,aH,aJ,ax,bf,bg⟩,bB⟩;have a4:∀g,mm aj C (af none 0 0) (af none 0 0) (af none 0 0) g->g=aj\/g=C:=λg v=>by
   rcases v with v|v|v|v|v
   ·exact ak v
   ·exact am v
   ·cases v
   ·cases v
   ·cases v
  have al:ci M w Q:=(a8.trans (bA r M) λ_ _ i=>i).trans (jT a0) λg m j=>by
   rcases j with j|j
   ·exact j
   ·rcases a4 g j with j|j<;>omega
  have ar:=In.offB ab aa
  have aX:In Q.heap.size Q 13 p:=((aa.below r).mono ch).kee a0 (ar.mono λg m j=>by
   rcases j with j|j
   ·have:=V g j;omega
   ·rcases a4 g j with j|j
    ·have:=m.2;omega
    ·exact m.1.2 j)
  have bv:cE (λg=>w.heap.size<g/\g<W.heap.size) 13 p:=ar.mono λg m=>⟨m.1.1,by have:=m.2;omega⟩;refine⟨f,rfl,a0.mono λg _ j=>?_,λaz=>?_,λaz=>?_⟩
  ·rcases j with j|j
   ·exact ak j
   ·exact am (a4 g j)
  ·obtain⟨bI,cC,cs,cr,bt,bu,cK,cJ,cG,H,bw,bx,be,_⟩:=bB az;have br:=H.sRow;have bq:=H.pRow;have bn:=H.lRow;have b5:=H.high;have bc:=H.sIn;have bb:=H.pIn;obtain⟨sa,sc,rfl⟩:=nB br;obtain⟨pa,pc,rfl⟩:=nB bq;obtain⟨ka,kc,rfl⟩:=nB bn;refine⟨_,_,_,_,sa,bt.length,sc,pa,bu.length,pc,ka,bI.links.length,kc,H.box,q,W.heap.size,L,F,P,aX,bv,by omega,al,aY,⟨S,aW,aP,aR,aT,aH,aJ,ax,bf,bg⟩,?_⟩;refine⟨G+1+n,bt,bu,⟨rfl,rfl,by rw[<-be]⟩,br,bq,by rw[<-be];exact bn,H.sIs.trans bw,H.pIs.trans bx,λj x=>⟨(bc j x).1,(bc j x).2.1,(bc j x).2.2.mono λg m=>⟨m.1,trivial⟩⟩,λj x=>⟨(bb j x).1,(bb j x).2.1,(bb j x).2.2.mono λg m=>⟨m.1,trivial⟩⟩,λg m=>⟨b5 g (am (am m)),trivial⟩⟩
  ·rw[aY]at az;obtain⟨bK,bL,bM⟩:=Ic az;refine⟨q,W.heap.size,L,F,P,aX,bv,by omega,al,aY,⟨S,aW,aP,aR,aT,aH,aJ,ax,bf,bg⟩,?_⟩;rw[bK,bL,bM];exact mF.none _ _ _
 ·rintro i Q (⟨cq,rfl,D⟩|⟨k,p,c,f,sa,sl,sc,pa,pl,pc,ka,kl,kc,rfl,D⟩)
  ·obtain⟨z,ck⟩:=D.out;refine ak ⟨cq,rfl,?_⟩;rcases ck with⟨rfl,ay⟩|⟨rfl,y,E⟩|⟨rfl,y,E,ao⟩
   ·exact⟨ay,by unfold rA;rw[if_pos ay],z⟩
   ·exact⟨by decide,by unfold rA;rw[if_neg (λg=>g y),if_pos E],z⟩
   ·refine⟨by decide,?_,z⟩;have aE:ou room l name self next (cn 13 s) (ms.map (cn 13))=none:=by
     unfold ou;rw[ao];rfl
    unfold rA;rw[if_neg (λg=>g y),if_neg (by rw[E];decide),aE];rfl
  ·obtain⟨y,E,T,bC,⟨q,ai,L,F,P,aX,ar,bO,al,a5,⟨S,aW,aP,aR,aT,aH,aJ,ax,P1,bz⟩,ce⟩,an,aB⟩:=D;have cB:=al.size;have cg:=an.size;have ca:(ms.map (cn 13)).eraseIdx k=(ms.eraseIdx k).map (cn 13):=by simp[tV,List.map_take,List.map_drop]
   have aE:ou room l name self next (cn 13 s) (ms.map (cn 13))=some {fG room self next (cn 13 s) (cn 13 s) ((ms.eraseIdx k).map (cn 13)) c q with message:=cn 13 p}:=by
    unfold ou;rw[L];simp only[dS];rw[F,ca,lI,O6]
   refine am ⟨p,f,sa,sl,sc,pa,pl,pc,ka,kl,kc,rfl,_,k,ai,?_,aE,a5,rfl,P,((aX.below an).mono cg).kee aB (ar.mono λg m i=>by omega),ar.mono λg m=>⟨by omega,m.2⟩,(al.trans (bA an M) λ_ _ i=>i).trans (jT aB) λb z i=>by omega,bO,⟨S,aW,aP,aR,aT,aH,aJ,ax,(P1.later (N:=12) an).kept (N:=12) (jT aB) λb z _ i=>?_,bz,(Ib ..).symm⟩,(ce.kept (aM an (λ_=>False)) λ_ _ _ _ i=>i).kept aB λg m _ _ i=>by omega⟩
   ·unfold rA;rw[if_neg (λg=>g y),if_neg (by rw[E];decide),aE];rfl
   ·rcases z with z|z
    ·have:=V b z;omega
    ·omega
theorem Hd(n:Nat)(x:Tm n):bJ n x=0\/bJ n x=2\/bJ n x=5:=by
 rw[<-gM];unfold xN;split
 ·split
  ·exact am (ak rfl)
  ·exact ak rfl
 ·exact am (am rfl)
section
variable {base pb:Nat} {name:aq} {room:Int} {N n:Nat} {s:Tm (N+1)} {ms:List (Tm (N+1))} {nk:Nat} {M:aU} {w:ah} {ws:List Wd} {nm:bj} {sv:Wd} {vs:List Wd} {ma:aw} {mc:Nat} {Mh:aU}
theorem cU.putBad(k:cU base pb name room (N+1) s ms [] nk M w ws nm sv vs ma mc Mh)(x:Tm (n+1))(B:In w.heap.size w (n+1) x)(z:cE (λb=>¬M b) (n+1) x)(u:(aF (n+1) x).length<=2097152)(G:nk<=94000)(F:base<=w.heap.size)(o:bJ (n+1) x≠0):au 185 #[aC pb,dE (n+1) x] w λe w'=>e=.returned (.tuple #[.agg #[ae 0,ae 0],ae (bJ (n+1) x)])/\ap w w':=by
 obtain⟨_,_,_,I,J,C,D,_⟩:=k.front;have H:=k.names;have l:jl (n+1) x room ws=bJ (n+1) x:=by
  unfold jl;rw[if_pos o]
 have t:jl (n+1) x room ws≠6:=by
  rw[l];rcases Hd (n+1) x with e|e|e<;>rw[e]<;>decide
 have p:∀{h:Wd}{c:Int}{f i:ah},zI (n+1) x base (PL pb name sv (af ma vs.length mc)) room ws nm Mh h c f i->c≠0:=λg=>by
  rw[g.1,l];exact o
 refine(CW pb x.1.1 x.1.2.1 x.1.2.2 x.2.1.1 x.2.2.length x.2.1.2 w (λh c f i=>zI (n+1) x base (PL pb name sv (af ma vs.length mc)) room ws nm Mh h c f i) (λ_ _=>False) (λ_ _ _ _=>False) ?_ ?_ ?_).mono ?_
 ·intro f d;have m:=d.size;have q:=k.later d;refine(wb (n+1) x base (PL pb name sv (af ma vs.length mc)) room ws nm Mh f q.heap ((B.below d).mono m) (z.mono λb d g=>d (k.inM b g)) u (by omega) C D (by omega) (by omega)).mono ?_;intro e i g;obtain⟨h,c,rfl,a⟩:=AG g;refine⟨h,c,rfl,?_,a⟩;have j:=(a.2.1 (p a)).2;exact⟨j.size,λb _ _ r=>j.block b r⟩
 ·intro K f i L _ a _ _;exact absurd a.1.symm t
 ·intro _ _ _ a;exact a.elim
 ·rintro e w' ⟨h,c,rfl,⟨_,f,i,d,a,y⟩|⟨_,_,_,_,_,_,_,_,_,_,_,a,_⟩⟩
  ·obtain⟨A,j⟩:=a.2.1 (p a);have m:=d.size;have v:c=bJ (n+1) x:=a.1.trans l;refine⟨by rw[v,A],(d.trans (j.mono m)).trans ((iD y).below (by have:=j.size;omega) λb E g=>by omega)⟩
  ·exact a.elim
theorem cU.deliverBad(f:cU base pb name room (N+1) s ms [] nk M w ws nm sv vs ma mc Mh)(x:Tm (n+1))(v:In w.heap.size w (n+1) x)(t:cE (λb=>¬M b) (n+1) x)(p:(aF (n+1) x).length<=2097152)(r:nk<=94000)(q:base<=w.heap.size)(k:bJ (n+1) x≠0):au 162 #[aC pb,dE (n+1) x] w λe w'=>e=.returned (ae (if 20<=ms.length then 2 else bJ (n+1) x))/\ap w w':=by
 have z:=f.len;obtain⟨A,u⟩:=f.box0;refine(r7 pb x.1.1 x.1.2.1 x.1.2.2 x.2.1.1 x.2.2.length x.2.1.2 vs.length mc ma w (λ_ l h d=>l=bJ (n+1) x/\ap h d) (λ_ _ _ _ _ _=>False) u ?_ ?_ ?_).mono ?_
 ·intro d a;obtain⟨D,B,C,i,_⟩:=(f.later a).heap.box;exact(PL.cells i).2.2.2.1
 ·intro h a;have g:=a.size;refine((f.later a).putBad x ((v.below a).mono g) t p r (aD q g) k).mono ?_;rintro e d ⟨rfl,c⟩;exact⟨(0,0),_,rfl,⟨c.size,λb _ _ j=>c.block b j⟩,rfl,c⟩
 ·rintro y h d ⟨e,_⟩;exact absurd e.symm k
 ·rintro e w' ⟨i,m⟩;by_cases o:20<=vs.length
  ·obtain⟨rfl,a⟩:=i o;exact⟨by rw[if_pos (by omega)],a⟩
  ·obtain⟨y,l,h,d,rfl,a,⟨rfl,c⟩,j,_⟩:=m (by omega);have g:=a.size;exact⟨by rw[if_neg (by omega)],(a.trans (c.mono g)).trans ((j k).mono (by have:=c.size;omega))⟩
end
def nV(n:Nat)(x:Tm n)(room:Int)(s:Tc)(ms:List Tc):Int:=if 20<=ms.length then 2 else if bJ n x≠0 then bJ n x else if aV n x=false then 5 else if ((s::ms).map (sz 13)).sum+sz n x<=room then 0 else 6
theorem F9{l:List Tc}(a:∀y∈l,bJ 13 y=0):((l.map (cn 13)).map (sz 13)).sum=(l.map (sz 13)).sum:=by
 rw[jy];congr 1;exact lD λy b=>Ga (a y b)
section
variable {base pb:Nat} {name:aq} {room:Int} {n:Nat} {s:Tc} {ms:List Tc} {nk:Nat} {M:aU} {w:ah} {ws:List Wd} {nm:bj} {sv:Wd} {vs:List Wd} {ma:aw} {mc:Nat} {Mh:aU}
theorem cU.deliverC(f:cU base pb name room 13 s ms [] nk M w ws nm sv vs ma mc Mh)(x:Tm (n+1))(C:In w.heap.size w (n+1) x)(B:cE (λb=>¬M b) (n+1) x)(J:(aF (n+1) x).length<=2097152)(I:∀b,M b->b<w.heap.size)(A:nk<=94000)(G:ms.length<=999)(v:base<=w.heap.size):au 162 #[aC pb,dE (n+1) x] w λe w'=>e=.returned (ae (nV (n+1) x room (cn 13 s) (ms.map (cn 13))))/\Hid (∃D q m o p k l h,cU base pb name room 13 s D [] (nk+201) (λb=>M b\/w.heap.size<=b) w' q m o p k l h/\ci M w w'/\D.map (cn 13)=if nV (n+1) x room (cn 13 s) (ms.map (cn 13))=0 then ms.map (cn 13)++ [cn (n+1) x]else ms.map (cn 13)):=by
 have L:∀r∈s::ms,bJ 13 r=0:=λr Q=>((f.front (N:=12)).2.2.1 r Q).1;have O:((cn 13 s::ms.map (cn 13)).map (sz 13)).sum=((s::ms).map (sz 13)).sum:=F9 L;by_cases a:bJ (n+1) x=0
 ·have j:aJ ⟨n+1,x⟩:=aW.2 (bS.1 a).1;have i:gI (n+1) x<13:=by have:=(bS.1 a).2.1;omega
  have g:=jU 13 (n+1) x j i;have y:bJ 13 (bi 13 (n+1) x)=0:=(bN g).trans a;have z:=f.deliver (N:=12) (bi 13 (n+1) x) (tC 13 (n+1) x _ _ j i C) (uY 13 (n+1) x _ j i B) (gG y) I A G v;have d:Ab 13 (bi 13 (n+1) x) room s ms=nV (n+1) x room (cn 13 s) (ms.map (cn 13)):=by
   unfold Ab nV tF;rw[O,cD,y,a,cF _ _ _ _ g,kV _ _ _ _ g]
  have P:dE (12+1) (bi (12+1) (n+1) x)=dE (n+1) x:=Av 12 n x;rw[P]at z;refine z.mono ?_;rintro e w' ⟨rfl,E⟩;obtain⟨q,m,o,p,k,l,h,F,K⟩:=E;refine⟨congrArg (λS=>Ending.returned (ae S)) d,_,q,m,o,p,k,l,h,F,K,?_⟩;have H:Ab (12+1) (bi (12+1) (n+1) x) room s ms=nV (n+1) x room (cn 13 s) (ms.map (cn 13)):=d;rw[H];by_cases c:nV (n+1) x room (cn 13 s) (ms.map (cn 13))=0
  ·rw[if_pos c,if_pos c,ft];congr 1;exact congrArg (λt=> [t]) (gA g)
  ·rw[if_neg c,if_neg c]
 ·have d:nV (n+1) x room (cn 13 s) (ms.map (cn 13))=if 20<=ms.length then 2 else bJ (n+1) x:=by
    unfold nV;rw[cD,if_pos a]
  have c:nV (n+1) x room (cn 13 s) (ms.map (cn 13))≠0:=by
   rw[d];split
   ·decide
   ·exact a
  refine(f.deliverBad (N:=12) x C B J A v a).mono ?_;rintro e w' ⟨rfl,u⟩;refine⟨by rw[d],ms,ws,nm,sv,vs,ma,mc,Mh,(f.later (N:=12) u).mono (N:=12) (λb R=>ak R) (by omega),bA u M,?_⟩;rw[if_neg c]
end
theorem Lo{x:Tm (n+1)}(room:Int)(name:aq)(b:bJ (n+1) x=0):fu 13 (bi 13 (n+1) x) room name=fu (n+1) x room name:=by
 have d:aJ ⟨n+1,x⟩:=aW.2 (bS.1 b).1;have c:gI (n+1) x<13:=by have:=(bS.1 b).2.1;omega
 have a:=jU 13 (n+1) x d c;unfold fu jl;rw[bN a,cF _ _ _ _ a,kV _ _ _ _ a]
theorem Qb(n:Nat)(x:Tm (n+1))(room:Int)(name:aq)(w:ah)(m:name.size<=9223372036854775807)(o:In w.heap.size w (n+1) x)(q:(aF (n+1) x).length<=2097152):au 85 #[ag name,dE (n+1) x,ae room] w λe w'=>(fu (n+1) x room name≠0->e=.returned (.tuple #[.pointer none,ae (fu (n+1) x room name)])/\ap w w')/\ (fu (n+1) x room name=0->∃d,e=.returned (.tuple #[aC d,ae 0])/\Hid (w.heap.size<=d/\ap w w'/\bJ (n+1) x=0/\∃s ws nm h Mh,cn 13 s=cn (n+1) x/\cU w.heap.size d name room 13 s [] [] 201 (λb=>w.heap.size<=b/\b<w'.heap.size) w' ws nm h [] none 0 Mh)):=by
 by_cases c:bJ (n+1) x=0
 ·have k:aJ ⟨n+1,x⟩:=aW.2 (bS.1 c).1;have j:gI (n+1) x<13:=by have:=(bS.1 c).2.1;omega
  have l:=jU 13 (n+1) x k j;have r:bJ 13 (bi 13 (n+1) x)=0:=(bN l).trans c;have i:=CS 12 (bi 13 (n+1) x) room name w m (tC 13 (n+1) x _ _ k j o) (gG r);have u:dE (12+1) (bi (12+1) (n+1) x)=dE (n+1) x:=Av 12 n x;rw[u]at i;refine i.mono ?_;rintro e w' ⟨f,g⟩;have t:fu (12+1) (bi (12+1) (n+1) x) room name=fu (n+1) x room name:=Lo room name c;rw[t]at f g;refine⟨f,λa=>?_⟩;obtain⟨d,rfl,p⟩:=g a;obtain⟨v,y,ws,nm,h,Mh,z⟩:=p;exact⟨d,rfl,v,y,c,_,ws,nm,h,Mh,gA l,z⟩
 ·refine(CS n x room name w m o q).mono ?_;rintro e w' ⟨f,g⟩;refine⟨f,λa=>?_⟩;unfold fu at a;split at a
  ·cases a
  ·split at a
   ·cases a
   ·unfold jl at a;rw[if_pos c]at a;exact absurd a c
def P1(e l:Nat)(name:aq)(room:Int)(cs:Tc)(g:List Tc)(k:Nat)(M:aU)(w:ah):Prop:=
 ∃a d c o j m n h i f,cU a l name room 13 d c [] k M w o j m n h i f/\(cn 13 d=cs/\c.map (cn 13)=g)/\a<=w.heap.size/\∀b,M b->e<=b/\b<w.heap.size
section
variable {B0 pb:Nat} {name:aq} {room:Int} {cs:Tc} {cms:List Tc} {k:Nat} {M:aU} {w:ah}
theorem P1.later(g:P1 B0 pb name room cs cms k M w){w1:ah}(c:ap w w1):P1 B0 pb name room cs cms k M w1:=by
 obtain⟨f,o,m,r,n,p,q,j,l,e,h,i,s,a⟩:=g;have t:=c.size;exact⟨f,o,m,r,n,p,q,j,l,e,h.later (N:=12) c,i,by omega,λb d=>⟨(a b d).1,by have:=(a b d).2;omega⟩⟩
theorem P1.kept(g:P1 B0 pb name room cs cms k M w){S:aU}{w1:ah}(d:ci S w w1)(j:∀b,M b->¬S b):P1 B0 pb name room cs cms k M w1:=by
 obtain⟨f,p,n,s,o,q,r,l,m,e,h,i,t,c⟩:=g;have u:=d.size;exact⟨f,p,n,s,o,q,r,l,m,e,h.kept (N:=12) d λb a _=>j b a,i,by omega,λb a=>⟨(c b a).1,by have:=(c b a).2;omega⟩⟩
def mM(M:aU)(w w':ah)(b:Nat):Prop:=(M b\/w.heap.size<=b)/\b<w'.heap.size
theorem P1.ok(h:P1 B0 pb name room cs cms k M w):bJ 13 cs=0/\aV 13 cs=true/\(∀m∈cms,bJ 13 m=0/\aV 13 m=true)/\((cs::cms).map (sz 13)).sum<=room:=by
 obtain⟨q,b,f,z,v,x,y,t,u,p,i,⟨rfl,rfl⟩,r,s⟩:=h;obtain⟨_,_,e,n,o,_⟩:=i.front (N:=12);have j:∀a∈b::f,bJ 13 a=0:=λa d=>(e a d).1;have c:=e b (by simp);refine⟨oU c.1,(mW c.1).trans c.2,λm l=>?_,?_⟩
 ·obtain⟨a,d,rfl⟩:=b9.1 l;have:=e a (b8 _ d);exact⟨oU this.1,(mW this.1).trans this.2⟩
 ·have g:((cn 13 b::f.map (cn 13)).map (sz 13)).sum=((b::f).map (sz 13)).sum:=F9 j;rw[g];exact Int.le_trans n o
theorem P1.deliver(j:P1 B0 pb name room cs cms k M w){n:Nat}(x:Tm (n+1))(t:In w.heap.size w (n+1) x)(s:cE (λb=>¬M b) (n+1) x)(q:(aF (n+1) x).length<=2097152)(r:k<=94000)(m:cms.length<=999)(G:B0<=w.heap.size):au 162 #[aC pb,dE (n+1) x] w λe w'=>e=.returned (ae (nV (n+1) x room cs cms))/\Hid (ci M w w'/\P1 B0 pb name room cs (if nV (n+1) x room cs cms=0 then cms++ [cn (n+1) x]else cms) (k+201) (mM M w w') w'):=by
 obtain⟨i,A,J,P,K,L,O,H,I,E,l,⟨rfl,rfl⟩,c,d⟩:=j;refine(l.deliverC x t s q (λb a=>(d b a).2) r (by simpa using m) c).mono ?_;rintro e w' ⟨rfl,h⟩;obtain⟨y,D,z,B,C,u,v,F,o,f,p⟩:=h;refine⟨rfl,f,i,A,y,D,z,B,C,u,v,_,o.inside (N:=12),⟨rfl,p⟩,aD c f.size,λb a=>⟨?_,a.2⟩⟩;rcases a.1 with g|g
 ·exact(d b g).1
 ·omega
theorem P1.state(d:P1 B0 pb name room cs cms k M w)(g:k<=95000):au 93 #[aC pb] w λe w'=>∃y:Tc,e=.returned (dE 13 y)/\Hid (ap w w'/\In w'.heap.size w' 13 y/\cE (λq=>w.heap.size<=q) 13 y/\bJ 13 y=0/\cn 13 y=cs):=by
 obtain⟨l,h,r,v,s,t,u,o,p,j,a,⟨rfl,rfl⟩,m,n⟩:=d;have f:=(a.front (N:=12)).2.2.1 h (by simp);refine(a.state (N:=12) g).mono ?_;rintro e w' ⟨y,rfl,c⟩;obtain⟨y1,y2,i,b⟩:=c;exact⟨y,rfl,y1,y2,i,(bN b).trans f.1,gA b⟩
end
section
variable {B0 pb:Nat} {name:aq} {room:Int} {cs:Tc} {cms:List Tc} {k:Nat} {M:aU} {w:ah}
theorem P1.mono(f:P1 B0 pb name room cs cms k M w){M':aU}{c a:Nat}(j:∀b,M b->M' b)(m:k<=c)(l:∀b,M' b->a<=b/\b<w.heap.size):P1 a pb name room cs cms c M' w:=by
 obtain⟨e,r,p,u,q,s,t,n,o,d,g,h,i,_⟩:=f;exact⟨e,r,p,u,q,s,t,n,o,d,g.mono (N:=12) j m,h,i,l⟩
def QE(B0 pb:Nat)(name:aq)(room:Int)(cs:Tc)(cms:List Tc)(k:Nat)(M:aU)(n:Nat)(l:List (Bh (n+1)))(self next:Int)(w:ah)(e:Ending)(w':ah):Prop:=
 (∃g,e=.returned (.tuple #[N3,ae g])/\Hid (g≠0/\g=rA n room l name self next cs cms/\ap w w'))\/
  ∃(a:Tc)(f:Int)(sa:aw)(sl sc:Nat)(pa:aw)(pl pc:Nat)(ka:aw)(kl kc:Nat),e=.returned (.tuple #[PH a.1.1 a.1.2.1 a.1.2.2 a.2.1.1 a.2.2.length a.2.1.2 f sa sl sc pa pl pc ka kl kc,ae 0])/\Hid (∃c d,rA n room l name self next cs cms=0/\ou room l name self next cs cms=some c/\f=c.fate/\cn 13 a=c.message/\bJ 13 a=0/\In w'.heap.size w' 13 a/\cE (λh=>w.heap.size<=h/\h<d) 13 a/\ci M w w'/\w.heap.size<d/\
   P1 B0 pb name room c.state c.mail (k+402) (λb=>(M b\/d<=b)/\b<w'.heap.size) w'/\c.mail.length<=cms.length/\mF (w.heap.size+1) c.sends c.spawns c.links sa sl sc pa pl pc ka kl kc (λ_=>True) w')
theorem P1.step(D:P1 B0 pb name room cs cms k M w){n:Nat}(l:List (Bh (n+1)))(a:aw)(c B:Nat)(K:iV (n+1) B w a l)(G:B<=w.heap.size)(L:l.length<=c)(O:c<=maxLen)(H:lj (n+1) l=true->(aF (n+6) (cW n l)).length<=2097152)(I:∀W,bG M w W->iV (n+1) B W a l)(ai:B0<=w.heap.size)(J:k<=92000)(F:cms.length<=999)(self next:Int):au 125 #[aC pb,af a l.length c,ae self,ae next] w (QE B0 pb name room cs cms k M n l self next w):=by
 obtain⟨C,ao,S,av,an,ap,aq,aj,al,ad,E,⟨rfl,rfl⟩,i,j⟩:=D;refine(E.step l a c B K G L O H (λb d=>(j b d).2) I J (by simpa using F) i self next).mono ?_;rintro ah ar (⟨Y,rfl,e⟩|⟨ab,f,sa,sl,sc,pa,pl,pc,ka,kl,kc,rfl,e⟩)
 ·exact ak ⟨Y,rfl,e⟩
 ·obtain⟨X,P,o,p,r,s,t,u,v,x,g,y,⟨U,aa,T,V,Z,Q,R,ag,z,A,h⟩,q⟩:=e;refine am ⟨ab,f,sa,sl,sc,pa,pl,pc,ka,kl,kc,rfl,X,o,p,r,s,t,u,v,x,g,y,⟨C,U,_,aa,T,V,Z,Q,R,_,z.inside (N:=12),⟨A,h⟩,aD i g.size,λb d=>⟨?_,d.2⟩⟩,?_,q⟩
  ·rcases d.1 with m|m
   ·exact(j b m).1
   ·omega
  ·rw[<-h,cD,cD];exact List.length_eraseIdx_le S P
end
theorem P1.new(n:Nat)(x:Tm (n+1))(room:Int)(name:aq)(w:ah)(m:name.size<=9223372036854775807)(o:In w.heap.size w (n+1) x)(k:(aF (n+1) x).length<=2097152):au 85 #[ag name,dE (n+1) x,ae room] w λe w'=>∃p:aw,e=.returned (.tuple #[.pointer p,ae (fu (n+1) x room name)])/\Hid (ap w w'/\(fu (n+1) x room name≠0->p=none)/\(fu (n+1) x room name=0->∃a,p=some ⟨a,0,none⟩/\w.heap.size<=a/\bJ (n+1) x=0/\P1 w.heap.size a name room (cn (n+1) x) [] 201 (λb=>w.heap.size<=b/\b<w'.heap.size) w')):=by
 refine(Qb n x room name w m o k).mono ?_;rintro e w' ⟨i,j⟩;by_cases c:fu (n+1) x room name=0
 ·obtain⟨a,rfl,g⟩:=j c;obtain⟨q,f,r,v,z,u,y,h,s,t⟩:=g;exact⟨some ⟨a,0,none⟩,by rw[c],f,λd=>absurd c d,λ_=>⟨a,rfl,q,r,w.heap.size,v,[],z,u,y,[],none,0,h,t,⟨s,rfl⟩,f.size,λb d=>d⟩⟩
 ·obtain⟨rfl,l⟩:=i c;exact⟨none,rfl,l,λ_=>rfl,λd=>absurd d c⟩
structure BL where
 b:Nat
 o:Nat
 c:Array ax
 t:TypeId
def uC(p:BL)(a:da)(w:ah):Prop:=(p.o<p.c.size/\p.t≠54)/\w.heap[p.b]?=some (.cells (p.c.setIfInBounds p.o (.map a)) p.t (0,0))
theorem uC.cell{p:BL}{c:da}{w:ah}(a:uC p c w):w.cell? ⟨p.b,p.o,none⟩=some (.map c)/\∀j,w.frozen? ⟨p.b,j,none⟩=false:=by
 refine⟨?_,λj=>by simp[World.frozen?,a.2]⟩;simp[World.cell?,a.2,a.1.1]
variable{p:BL}
theorem uC.lt(a:uC p v w):p.b<w.heap.size:=(aN.1 a.2).1
theorem uC.kept{p:BL}{c:da}{w w':ah}(a:uC p c w)(d:w'.heap[p.b]?=w.heap[p.b]?):uC p c w':=⟨a.1,d.trans a.2⟩
theorem uC.set{mo':da}(a:uC p v w):uC p mo' (w.setCell ⟨p.b,p.o,none⟩ (.map mo')):=by
 refine⟨a.1,?_⟩;simp[World.setCell,bQ,a.2]
def iy(base:Nat)(d:BL)(a:da)(n N:Nat)(f:bC->List (Tm N))(sl:bC->ax)(w:ah):Prop:=
 base<=d.b/\uC d a w/\((a=none/\f=(λ_=> [])/\sl=λ_=>nr)\/∃c,a=some c/\GM base c n N f sl w)
def sR(c:BL)(a:da)(sl:bC->ax)(b:Nat):Prop:=b=c.b\/a=some b\/∃k,I2 k/\(sl k).ownBlock=some b
variable {base n N:Nat} {wp:BL} {mo:da} {f:bC->List (Tm N)} {sl:bC->ax} {w:ah}
theorem iy.lt(c:iy base wp mo n N f sl w)(b:Nat)(a:sR wp mo sl b):base<=b/\b<w.heap.size:=by
 obtain⟨d,e,g⟩:=c;rcases a with rfl|a
 ·exact⟨d,e.lt⟩
 ·rcases g with⟨rfl,_,rfl⟩|⟨i,rfl,h⟩
  ·rcases a with a|⟨k,_,a⟩
   ·cases a
   ·simp[nr,Value.ownBlock]at a
  ·refine h.lt b ?_;rcases a with a|a
   ·exact ak (aG a).symm
   ·exact am a
theorem Gk{d:BL}{b:Nat}{sl:bC->ax}(c:Ot a sl b):sR d (some a) sl b:=by
 rcases c with rfl|c
 ·exact am (ak rfl)
 ·exact am (am c)
theorem iy.kee{S:aU}{w':ah}(c:iy base wp mo n N f sl w)(k:bG S w w')(d:∀b,sR wp mo sl b->¬S b):iy base wp mo n N f sl w':=by
 have j:=(c.lt wp.b (ak rfl)).2;obtain⟨e,g,a⟩:=c;refine⟨e,g.kept (k.block wp.b j (d wp.b (ak rfl))),?_⟩;rcases a with a|⟨l,rfl,i⟩
 ·exact ak a
 ·exact am ⟨l,rfl,i.kee k λb h=>d b (Gk h)⟩
theorem iy.later(a:iy base wp mo n N f sl w)(k:ap w w'):iy base wp mo n N f sl w':=a.kee (aM k λ_=>False) λ_ _ b=>b
theorem iy.row(a:iy base wp mo n N f sl w){k:bC}(c:I2 k):oR base N (sl k) (f k) w:=by
 rcases a.2.2 with⟨_,rfl,rfl⟩|⟨d,_,b⟩
 ·exact⟨by simp[dL,cM],ak ⟨rfl,rfl⟩⟩
 ·exact b.row k c
theorem iy.look(b:iy base wp mo n N f sl w){k:bC}(a:I2 k):(Instr.lookup 132 (.map mo) (pk k) false).run Tryz.prog w=.ok (sl k) w:=by
 rcases b.2.2 with⟨rfl,_,rfl⟩|⟨d,rfl,c⟩
 ·exact Iz w a
 ·exact c.look a
theorem iy.cell(a:iy base wp mo n N f sl w):ai w wp.b (wp.o) (.map mo)/\∀j,w.frozen? ⟨wp.b,j,none⟩=false:=by
 exact a.2.1.cell
theorem oR.sliced{v:Value}{l:List (Tm N)}(d:oR base N v l w):∃a c,v=.slice a l.length c:=by
 rcases d.2 with⟨rfl,b⟩|⟨f,cap,e,rfl,_⟩
 ·exact⟨none,0,by rw[b]⟩
 ·exact⟨_,_,rfl⟩
theorem JK(c:iy base wp mo n N f sl w){a b:Int}(g:I2 (a,b)):au 210 #[.pointer (some ⟨wp.b,wp.o,none⟩),ae a,ae b] w λe w'=>e=.returned (ae (f (a,b)).length)/\w'=w:=by
 have i:=c.cell.1;obtain⟨sa,sc,h⟩:=(c.row g).sliced;have d:=c.look g;rw[h]at d;unfold pk at d;simp only at d;clear c;go_enter func210,ntmps210;go_wp2_with fail
 go_ret
 exact⟨rfl,rfl⟩
theorem Gu(a:Int)(w:ah):au 209 #[ae a] w λe w'=>e=.returned (.bool (decide (1<=a) && decide (a<=99)))/\w'=w:=by
 go_enter func209,ntmps209;by_cases b:1<=a<;>by_cases c:a<=99
 all_goals
  go_wp2_with fail
  go_ret
  simp[b,c]
variable {base mb n N:Nat} {f:bC->List (Tm N)} {sl:bC->ax} {w wr:ah}
def OF(base mb n N:Nat)(f:bC->List (Tm N))(sl:bC->ax)(k:bC)(g:Nat)(W e:ah):Prop:=
 ∀(a:ah)(c:ax)(l:List (Tm N)),a.heap[mb]?=e.heap[mb]? ->bG (λb=>b=mb\/(sl k).ownBlock=some b) W a->l≠[]->oR base N c l a->(∀b,c.ownBlock=some b->(sl k).ownBlock=some b\/W.heap.size<=b)->
  ∃d,(Instr.entryStore 132 (.map (some mb)) (goInt g) c).run Tryz.prog a=.ok () d/\GM base mb (n+1) N (iw f k l) (iw sl k c) d/\bG (λb=>b=mb) a d/\d.heap.size=a.heap.size
def Qx(base mb n N:Nat)(f:bC->List (Tm N))(sl:bC->ax)(k:bC)(y:Tm N)(wr c:ah):Prop:=
 ∃a,GM base mb (n+1) N (iw f k (f k++ [y])) (iw sl k a) c/\bG (Ot mb sl) wr c/\∀b,Ot mb (iw sl k a) b->Ot mb sl b\/wr.heap.size<=b
theorem GM.open(d:GM base mb n N f sl wr)(h:I2 k)(i:n<1000000)(e:ap wr W):∃(c:Nat)(a:ah),(Instr.mapEntry 132 (.map (some mb)) (pk k)).run Tryz.prog W=.ok (.tuple #[sl k,goInt c]) a/\bG (λb=>b=mb) W a/\a.heap.size=W.heap.size/\OF base mb n N f sl k c W a:=
 (d.kee (aM e λ_=>False) λ_ _ g=>g).entry h i
theorem OF.done(p:GM base mb n N f sl wr)(t:I2 k){L:Nat}{j l h:ah}(B:OF base mb n N f sl k a W j)(r:ap wr W)(J:bG (λb=>b=mb) W j)(M:j.heap.size=W.heap.size)(m:ap j l)(D:l.grownBy h (sl k).ownBlock){c:Nat}{y:Tm N}(z:(f k).length=L)(F:h.ownsRow base 54 4 (af (some ⟨g,0,none⟩) (L+1) c) (L+1) (dL N (f k)++wK (gK N y)))(A:(sl k).ownBlock=some g\/g=l.heap.size):∃i,(Instr.entryStore 132 (.map (some mb)) (goInt a) (af (some ⟨g,0,none⟩) (L+1) c)).run Tryz.prog h=.ok () i/\Qx base mb n N f sl k y wr i/\bG (λb=>b=mb) h i/\i.heap.size=h.heap.size:=by
 subst z;have K:=p.lt mb (ak rfl);have P:=r.size;have O:=m.size;have w:=eu D;have I:(Value.slice (some ⟨g,0,none⟩) ((f k).length+1) c).ownBlock=some g:=rfl;have v:∀b,(Value.slice (some ⟨g,0,none⟩) ((f k).length+1) c).ownBlock=some b->(sl k).ownBlock=some b\/W.heap.size<=b:=λb e=>by
  rw[I]at e;injection e with e;subst e;rcases A with d|d
  ·exact ak d
  ·exact am (by omega)
 have q:bG (λb=>b=mb\/(sl k).ownBlock=some b) W h:=by
  refine bG.trans (bG.trans (J.mono λb _ d=>ak d) (aM m λ_=>False) λ_ _ C=>C.elim) w λb _ d=>am d
 have E:h.heap[mb]?=j.heap[mb]? :=(w.block mb (by omega) (p.ne t)).trans (m.block mb (by omega))
 obtain⟨i,G,x,u,H⟩:=B h _ (f k++ [y]) E q (by simp) (by
  unfold oR;rw[qA,bm];have d:dL N [y]=wK (gK N y):=by simp[dL,cM]
  rw[d]
  exact F) v
 refine⟨i,G,⟨_,x,?_,λb e=>?_⟩,u,H⟩
 ·refine bG.trans (bG.trans (aM r _) (q.mono (T:=λb=>b=mb\/(sl k).ownBlock=some b) λb _ d=>d) λb _ d=>?_) u λb _ d=>ak d;rcases d with d|d
  ·exact ak d
  ·exact am ⟨k,t,d⟩
 ·rcases e with e|⟨o,s,e⟩
  ·exact ak (ak e)
  ·by_cases d:o=k
   ·subst d;rw[de]at e;rcases v b e with d|d
    ·exact ak (am ⟨o,s,d⟩)
    ·exact am (by omega)
   ·rw[cd _ _ d]at e;exact ak (am ⟨o,s,e⟩)
section
variable {ops:Array Oper} {o:Oper} {a:Act} {K:Act->bE} {Q:Exit->Act->bE} {E:Prop}
end
end Go.Proofs.YthjclakhibnamaaGreatDoor
