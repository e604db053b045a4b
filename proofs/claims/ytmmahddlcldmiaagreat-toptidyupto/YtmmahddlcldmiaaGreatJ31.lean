/- Proved here: plain facts and contracts. No condition but what each names. -/
import Derived.Test.YtmmahddlcldmiaaGreatJ30
import Derived.Deep.DeepCutAuto
namespace Go.Proofs.YtmmahddlcldmiaaGreat
open Go.RowKit Go.Proofs.Tryz
open Go.RowKit Go.Maps
set_option maxRecDepth 100000
set_option maxHeartbeats 2000000
structure T8 where
 y0:Int
 y1:Int
 y2:ByteArray
 ya:Option Addr
 yl:Nat
 yc:Nat
 f:Int
 sa:Option Addr
 sl:Nat
 sc:Nat
 pa:Option Addr
 pl:Nat
 pc:Nat
 ka:Option Addr
 kl:Nat
 kc:Nat
theorem Pf{w:World}{q:Nat}{g:Array Value}{T:TypeId}{fr:Nat×Nat}(h:w.heap[q]?=some (.cells g T fr))(j:g.size=8)(v0 v1 v2 v3 c d e f:Value):((((((((w.setCell ⟨q,0,none⟩ v0).setCell ⟨q,1,none⟩ v1).setCell ⟨q,2,none⟩ v2).setCell ⟨q,3,none⟩ v3).setCell ⟨q,4,none⟩ c).setCell ⟨q,5,none⟩ d).setCell ⟨q,6,none⟩ e).setCell ⟨q,7,none⟩ f).heap[q]?=some (.cells #[v0,v1,v2,v3,c,d,e,f] T fr)/\bt (λb=>b=q) w ((((((((w.setCell ⟨q,0,none⟩ v0).setCell ⟨q,1,none⟩ v1).setCell ⟨q,2,none⟩ v2).setCell ⟨q,3,none⟩ v3).setCell ⟨q,4,none⟩ c).setCell ⟨q,5,none⟩ d).setCell ⟨q,6,none⟩ e).setCell ⟨q,7,none⟩ f):=by
 refine⟨?_,(((((((bC w q 0 v0).trans (bC _ q 1 v1) λ_ _ a=>a).trans (bC _ q 2 v2) λ_ _ a=>a).trans (bC _ q 3 v3) λ_ _ a=>a).trans (bC _ q 4 c) λ_ _ a=>a).trans (bC _ q 5 d) λ_ _ a=>a).trans (bC _ q 6 e) λ_ _ a=>a).trans (bC _ q 7 f) λ_ _ a=>a⟩;obtain⟨l⟩:=g;have i:l.length=8:=by simpa using j
 match l,i with
 | [a0,a1,a2,a3,a4,a5,a6,a7],_=>simp[World.setCell,bJ,h]
def NR(e:T8->Int->World->World->Prop)(w:World)(q:Nat)(t:T8)(u:Int)(d:World):Prop:=
 ∃a c,aj w a/\e t u a c/\(w.heap.size<=q/\(q<a.heap.size\/c.heap.size<=q))/\d.heap[q]?=some (.cells #[ab t.y0,ab t.y1,af t.y2,ae t.ya t.yl t.yc,ab t.f,ae t.sa t.sl t.sc,ae t.pa t.pl t.pc,ae t.ka t.kl t.kc] 117)/\bt (λb=>b=q) c d
theorem ye(g:Nat)(Z:Option Nat)(a S Y:Int)(N:Option Addr)(P O:Nat)(aa:Value)(F:Bool)(w:World)(E:T8->Int->World->World->Prop)(M:Nat->T8->World->Prop)(C:Nat->T8->Value->Bool->World->Prop)(R:Int->World->Prop)(aT:IntKind.i64.wrap (S+1)=Y)(aZ:g<w.heap.size)(ad:Hid (w.cell? ⟨g,0,none⟩=some (ae N P O)/\w.cell? ⟨g,2,none⟩=some (ab S)/\w.cell? ⟨g,3,none⟩=some (.map Z)))(au:(Instr.lookup 67 (.map Z) (ab a) true).run Tryz.prog w=.ok (.tuple #[aa,.bool F]) w)(J:Hid (F=false->R 4 w))(L:Hid (F=true->∀W,aj w W->ak 45 #[aa,ae N P O,ab a,ab Y] W λe w'=>∃(t:T8)(u:Int),e=.returned (.tuple #[.agg #[ab t.y0,ab t.y1,af t.y2,ae t.ya t.yl t.yc,ab t.f,ae t.sa t.sl t.sc,ae t.pa t.pl t.pc,ae t.ka t.kl t.kc],ab u])/\Hid (E t u W w'/\(∀q,w.heap.size<=q->q<W.heap.size->w'.heap[q]?=W.heap[q]?)/\W.heap.size<=w'.heap.size/\(w'.cell? ⟨g,0,none⟩=some (ae N P O)/\w'.cell? ⟨g,2,none⟩=some (ab S)))))(HB:Hid (∀q t u W,NR E w q t u W->u≠0->R u W))(B:Hid (∀q t W,NR E w q t 0 W->ak 46 #[aC g,af ⟨#[116,97,107,101]⟩,ab a,ab 0,.agg #[ab t.y0,ab t.y1,af t.y2,ae t.ya t.yl t.yc]] W λe w'=>e=.returned (.tuple #[])/\Hid (M q t w')))(x:Hid (∀q t W,M q t W->ak 47 #[aC g,ae t.pa t.pl t.pc] W λe w'=>∃v b,e=.returned (.tuple #[v,.bool b])/\Hid (C q t v b w')))(y:Hid (∀q t W,M q t W->W.heap[q]?=some (.cells #[ab t.y0,ab t.y1,af t.y2,ae t.ya t.yl t.yc,ab t.f,ae t.sa t.sl t.sc,ae t.pa t.pl t.pc,ae t.ka t.kl t.kc] 117)))(z:Hid (∀q t v b W,C q t v b W->W.heap[q]?=some (.cells #[ab t.y0,ab t.y1,af t.y2,ae t.ya t.yl t.yc,ab t.f,ae t.sa t.sl t.sc,ae t.pa t.pl t.pc,ae t.ka t.kl t.kc] 117)))(l:Hid (∀q t v b W,C q t v b W->(t.f=2\/t.f=3)->ak 48 #[aC g,ab a,ab t.f] W λe w'=>e=.returned (.tuple #[])/\Hid (R 0 w')))(m:Hid (∀q t v W,C q t v false W->¬(t.f=2\/t.f=3)->ak 48 #[aC g,ab a,ab 2] W λe w'=>e=.returned (.tuple #[])/\Hid (R 0 w')))(n:Hid (∀q t v W,C q t v true W->¬(t.f=2\/t.f=3)->ak 49 #[aC g,ab a,.agg #[ab t.y0,ab t.y1,af t.y2,ae t.ya t.yl t.yc,ab t.f,ae t.sa t.sl t.sc,ae t.pa t.pl t.pc,ae t.ka t.kl t.kc],v] W λe w'=>e=.returned (.tuple #[])/\Hid (R 0 w'))):ak 24 #[aC g,ab a] w λe w'=>∃v,e=.returned (ab v)/\Hid (R v w'):=by
 obtain⟨an,aq,ar⟩:=ad;go_enter func24,ntmps24;go_upto_region 2 with fail;cases F
 ·have K:=ap (J rfl);clear L J HB B x y z l m n;go_wp2_with fail
  go_ret
  exact⟨4,rfl,K⟩
 have V:=ap (L rfl);clear L J au ar;have H:Hid (aj w w.drew):=(ao _ _).drew;have I:Hid (∀o,aj w (w.drew.alloc o)):=λo=>(ao _ _).drew.alloc (am _) o;have aU:¬(w.heap.size=g):=by omega
 have aV:¬(g=w.heap.size):=by omega
 go_upto_region 4 with fail;go_cut [7,8] (λav aw ay=>∃(q:Nat)(t:T8)(u:Int),av=aC q/\aw=ab u/\Hid (NR E w q t u ay))
 case first=>
  clear HB B x y z l m n
  go_region_with ((first
   | (go_at_call 45;refine(V _ (by first|exact H|exact I _)).mono ?_;rintro e c ⟨t,u,rfl,p⟩;have aY:g<c.heap.size:=(by have:=p.2.2.1;simp at this;omega);have aW:¬(c.heap.size=g):=(by omega);have aX:¬(g=c.heap.size):=(by omega);obtain⟨a1,a2⟩:=p.out.2.2.2;(first|(have d:c.heap[w.heap.size]?=some (.cells #[ab 0,ab 0,af ⟨#[]⟩,ae none 0 0,ab 0,ae none 0 0,ae none 0 0,ae none 0 0] 117):=((p.2.1 w.heap.size (am _) (by simp)).trans (aA w.drew _));obtain⟨a3,a4,a5,a6,a7,a8,a9,ba⟩:c.cell? ⟨w.heap.size,0,none⟩=some (ab 0)/\c.cell? ⟨w.heap.size,1,none⟩=some (ab 0)/\c.cell? ⟨w.heap.size,2,none⟩=some (af ⟨#[]⟩)/\c.cell? ⟨w.heap.size,3,none⟩=some (ae none 0 0)/\c.cell? ⟨w.heap.size,4,none⟩=some (ab 0)/\c.cell? ⟨w.heap.size,5,none⟩=some (ae none 0 0)/\c.cell? ⟨w.heap.size,6,none⟩=some (ae none 0 0)/\c.cell? ⟨w.heap.size,7,none⟩=some (ae none 0 0):=⟨ag d 0,ag d 1,ag d 2,ag d 3,ag d 4,ag d 5,ag d 6,ag d 7⟩;have az:c.frozen? ⟨w.heap.size,0,none⟩=false:=(by simp[World.frozen?,d]);have aB:c.frozen? ⟨w.heap.size,1,none⟩=false:=(by simp[World.frozen?,d]);have aD:c.frozen? ⟨w.heap.size,2,none⟩=false:=(by simp[World.frozen?,d]);have aE:c.frozen? ⟨w.heap.size,3,none⟩=false:=(by simp[World.frozen?,d]);have aF:c.frozen? ⟨w.heap.size,4,none⟩=false:=(by simp[World.frozen?,d]);have aG:c.frozen? ⟨w.heap.size,5,none⟩=false:=(by simp[World.frozen?,d]);have aH:c.frozen? ⟨w.heap.size,6,none⟩=false:=(by simp[World.frozen?,d]);have aI:c.frozen? ⟨w.heap.size,7,none⟩=false:=(by simp[World.frozen?,d]);have al:=ap d;clear d)|skip))))
  all_goals (go_wp2_with fail;go_meet)
  all_goals (refine⟨_,t,u,rfl,rfl,?_⟩)
  all_goals (first
   | exact⟨_,c,H,p.1,⟨by have:=p.2.2.1;simpa using this,ai (am _)⟩,aA _ _,aK ((ao _ _).alloc (am _) _) _⟩
   | exact⟨_,c,I _,p.1,⟨am _,ah (by simp)⟩,Pf al rfl _ _ _ _ _ _ _ _⟩)
 case rest=>
 obtain⟨q,t,u,rfl,rfl,A⟩:=hcut;clear V H I an aq;by_cases Q:u=0;rotate_left
 ·have K:=ap (HB _ _ _ _ A Q);have a0:(u==0)=false:=by simpa using Q
  clear A HB B x y z l m n;go_wp2_with fail
  go_ret
  exact⟨u,rfl,K⟩
 subst Q;have X:=ap (B _ _ _ A);obtain⟨_,_,_,_,_,D,_⟩:=A.out;have d0:wc.cell? ⟨q,0,none⟩=some (ab t.y0):=ag D 0;have d1:wc.cell? ⟨q,1,none⟩=some (ab t.y1):=ag D 1;have d2:wc.cell? ⟨q,2,none⟩=some (af t.y2):=ag D 2;have d3:wc.cell? ⟨q,3,none⟩=some (ae t.ya t.yl t.yc):=ag D 3;clear D A HB B;go_wp2_with fail;refine X.mono ?_;rintro e ax ⟨rfl,G⟩;have U:=ap (x _ _ _ G);have d6:ax.cell? ⟨q,6,none⟩=some (ae t.pa t.pl t.pc):=ag (y _ _ _ G) 6;clear X x y G d0 d1 d2 d3;go_wp2_with fail;refine U.mono ?_;rintro e i ⟨v,b,rfl,j⟩;have h:=ap (z _ _ _ _ _ j);have f4:i.cell? ⟨q,4,none⟩=some (ab t.f):=ag h 4;clear d6 U z;by_cases s:t.f=2\/t.f=3
 ·have r:=ap (l _ _ _ _ _ j s);clear m n l j h;generalize t.f=f at*;rcases s with rfl|rfl
  ·go_wp2_with fail;refine r.mono ?_;rintro e T ⟨rfl,k⟩;go_wp2_with fail
   go_ret
   exact⟨0,rfl,k⟩
  ·go_wp2_with fail;refine r.mono ?_;rintro e T ⟨rfl,k⟩;go_wp2_with fail
   go_ret
   exact⟨0,rfl,k⟩
 have aR:(t.f==2)=false:=by simpa using λe=>s (ah e)
 have aS:(t.f==3)=false:=by simpa using λe=>s (ai e)
 cases b
 ·have r:=ap (m _ _ _ _ j s);clear m n l j h;go_wp2_with fail;refine r.mono ?_;rintro e T ⟨rfl,k⟩;go_wp2_with fail
  go_ret
  exact⟨0,rfl,k⟩
 ·have r:=ap (n _ _ _ _ j s);have aJ:i.cell? ⟨q,0,none⟩=some (ab t.y0):=ag h 0;have aL:i.cell? ⟨q,1,none⟩=some (ab t.y1):=ag h 1;have aM:i.cell? ⟨q,2,none⟩=some (af t.y2):=ag h 2;have aN:i.cell? ⟨q,3,none⟩=some (ae t.ya t.yl t.yc):=ag h 3;have aO:i.cell? ⟨q,5,none⟩=some (ae t.sa t.sl t.sc):=ag h 5;have aP:i.cell? ⟨q,6,none⟩=some (ae t.pa t.pl t.pc):=ag h 6;have aQ:i.cell? ⟨q,7,none⟩=some (ae t.ka t.kl t.kc):=ag h 7;clear m n l j h;go_wp2_with fail;refine r.mono ?_;rintro e T ⟨rfl,k⟩;go_wp2_with fail
  go_ret
  exact⟨0,rfl,k⟩
def FL(f:Tk)(t:T8)(d:fT)(W:World):Prop:=
 ∃(h g:Nat)(c:List (Int×Tm (h+1)))(e:List (Int×ByteArray×Tm (h+1))),(c.length=t.sl/\e.length=t.pl/\f.links.length=t.kl)/\W.ownsRow g 177 5 (ae t.sa t.sl t.sc) t.sl (c.flatMap λa=>Nt a.1 a.2)/\W.ownsRow g 174 6 (ae t.pa t.pl t.pc) t.pl (e.flatMap λa=>Ox a.1 a.2.1 a.2.2)/\W.ownsRow g 3 1 (ae t.ka t.kl t.kc) t.kl (f.links.map λi=>ab i)/\
  c.map (λa=>(a.1,cn _ a.2))=f.sends/\e.map (λa=>(a.1,a.2.1,cn _ a.2.2))=f.spawns/\(∀a∈c,bz _ a.2=0/\FH d W a.2)/\(∀a∈e,bz _ a.2.2=0/\FH d W a.2.2)/\∀b,((Value.slice t.sa t.sl t.sc).ownBlock=some b\/(Value.slice t.pa t.pl t.pc).ownBlock=some b\/(Value.slice t.ka t.kl t.kc).ownBlock=some b)->b<W.heap.size/\0<=d.ow b
theorem FL.kee{n:Tk}{t:T8}{d h:fT}{W g:World}(s:FL n t d W)(b:bt (λq=>d.ow q<0) W g)(m:∀q,q<W.heap.size->h.ow q=d.ow q):FL n t h g:=by
 obtain⟨p,r,A,B,e,u,v,w,x,y,k,l,f⟩:=s;have hF:∀{z:Nat}{o:Tm z},FH d W o->FH h g o:=λj=>by
  have e:=eS b (D:=λq=>0<=d.ow q/\q<W.heap.size) (λq a C=>by omega) ⟨j.1,In.offB j.2 j.1⟩;exact⟨e.1,e.2.mono λq a=>by rw[m q a.2];exact a.1⟩
 have i:∀q,((Value.slice t.sa t.sl t.sc).ownBlock=some q\/(Value.slice t.pa t.pl t.pc).ownBlock=some q\/(Value.slice t.ka t.kl t.kc).ownBlock=some q)->¬d.ow q<0:=λq a=>by have:=(f q a).2;omega
 exact⟨p,r,A,B,e,bk u b λq a=>i q (ah a),bk v b λq a=>i q (ai (ah a)),bk w b λq a=>i q (ai (ai a)),x,y,λa c=>⟨(k a c).1,hF (k a c).2⟩,λa c=>⟨(l a c).1,hF (l a c).2⟩,λq a=>⟨aR (f q a).1 b.size,by rw[m q (f q a).1];exact(f q a).2⟩⟩
def P8(t:T8):Obj:=.cells #[ab t.y0,ab t.y1,af t.y2,ae t.ya t.yl t.yc,ab t.f,ae t.sa t.sl t.sc,ae t.pa t.pl t.pc,ae t.ka t.kl t.kc] 117
section
variable {p:jY} {s:Sy} {d:fT} {w:World}
theorem fI.ug{M:Nat->Prop}{k b c:Nat}{d1 d2:fT}{w1 w2:World}(l:fI k c d d1 w w1)(g:qd M b d1 d2 w1 w2)(m:∀q,M q->w.heap.size<=q):fI (k+b) c d d2 w w2:=by
 obtain⟨e,f,t,u,v,x⟩:=l;obtain⟨i,j,_,o,p,r,s⟩:=g;have y:=e.size;exact⟨e.trans i λq a h=>by rw[f q a]at h;omega,λq a=>(j q (by omega) λn=>by have:=m q n;omega).trans (f q a),by omega,by omega,by omega,by omega⟩
def OZ(p:jY)(s:Sy)(d:fT)(w:World)(a:Tk)(q:Nat)(t:T8)(d1:fT)(W:World):Prop:=
 bj p s d1 W/\fI 1 402 d d1 w W/\(w.heap.size<=q/\q<W.heap.size/\d1.ow q=0/\W.heap[q]?=some (P8 t))/\t.f=a.fate/\FL a t d1 W
theorem bj.run(q:bj p s d w){a:Int}(aT:dx a)(cr:d.k<=46000)(co:d.es.length<=96000)(cx:d.wn<=800000)(cq:d.bn<=800000):ak 24 #[aC p.b,ab a] w λe w'=>∃v,e=.returned (ab v)/\Hid (v=(s.run p.n p.prog p.room a).2/\∃E,bj p (s.run p.n p.prog p.room a).1 E w'/\fI 201 402 d E w w'):=by
 obtain⟨bO,aX⟩:=q.lo;obtain⟨a8,cj,a9,ba⟩:=q.cells;obtain⟨_,_,_,cl,cm,_⟩:=q.keys;have bg:kA (p.n+1) p.prog=true:=(fq q.pg.2.2.2.1).1;have be:IntKind.i64.wrap (s.last+1)=s.last+1:=by rw[IntKind.wrap];simp[IntKind.bits,IntKind.signed];omega
 have ad:=q.look a true;have aA:=q.alive a;rw[if_pos rfl]at ad;obtain⟨P,m⟩:∃P,P=s.run p.n p.prog p.room a:=⟨_,rfl⟩;rw[<-m];unfold Sy.run at m;cases hg:s.get a with
 | none=>
  rw[hg]at m aA;rw[aA]at ad;have bB:(4:Int)=P.2/\∃E,bj p P.1 E w/\fI 201 402 d E w w:=by
   rw[m];exact⟨rfl,d,q,(dS.later d (ao _ _)).un.mono (aH _) (aH _)⟩
  exact ye p.b d.po a s.last (s.last+1) p.pa p.prog.length p.pc _ false w (λ_ _ _ _=>False) (λ_ _ _=>False) (λ_ _ _ _ _=>False) (λv w'=>v=P.2/\∃E,bj p P.1 E w'/\fI 201 402 d E w w') be aX ⟨a8,a9,ba⟩ ad (λ_=>bB) ((λg=>by cases g)) (λ_ _ _ _ ⟨_,_,_,g,_⟩=>g.elim) (λ_ _ _ ⟨_,_,_,g,_⟩=>g.elim) (λ_ _ _ g=>g.elim) (λ_ _ _ g=>g.elim) (λ_ _ _ _ _ g=>g.elim) (λ_ _ _ _ _ g=>g.elim) (λ_ _ _ _ g=>g.elim) λ_ _ _ _ g=>g.elim
 | some ar=>
  obtain⟨B,aa,V⟩:=ar;rw[hg]at m aA;obtain⟨bu,aE⟩:=fu.1 aA;rw[aE]at ad;obtain⟨b7,bG,bF,av,bI,ck⟩:=q.ps a bu aE;rw[hg]at av;obtain⟨rfl,rfl,rfl⟩:B=b7/\aa=bG/\V=bF:=by
   injection av with av;injection av with z u;injection u with u bH;exact⟨z,u,bH⟩
  have cp:=(q.key aE).1;obtain⟨T,aS⟩:∃T,T=rQ p.n p.room p.prog B a (s.last+1) aa V:=⟨_,rfl⟩;simp only[<-aS]at m;have aD:∀h,w.heap.size<=h->d.ow h=0:=λh aV=>by
   by_cases g:d.ow h=0
   ·exact g
   ·have:=(q.low h g).2;omega
  refine ye p.b d.po a s.last (s.last+1) p.pa p.prog.length p.pc _ true w
   (λt Z l w'=>(Z≠0/\Z=T/\aj l w')\/(Z=0/\T=0/\∃(r:Tc)(i:Tk)(J:Nat),(r.1=(t.y0,t.y1,t.y2)/\r.2.1=(t.ya,t.yc)/\r.2.2.length=t.yl)/\nE p.room p.prog B a (s.last+1) aa V=some i/\t.f=i.fate/\cn 13 r=i.message/\bz 13 r=0/\In w'.heap.size w' 13 r/\ch (λh=>l.heap.size<=h/\h<J) 13 r/\bT (λh=>d.ow h=a) l w'/\l.heap.size<J/\P1 p.lo bu B p.room i.state i.mail (d.k+201+402) (λb=>(d.ow b=a\/J<=b)/\b<w'.heap.size) w'/\i.mail.length<=V.length/\lV (l.heap.size+1) i.sends i.spawns i.links t.sa t.sl t.sc t.pa t.pl t.pc t.ka t.kl t.kc (λ_=>True) w'))
   (λh t l=>∃i d1,T=0/\nE p.room p.prog B a (s.last+1) aa V=some i/\OZ p ((s.put a (B,i.state,i.mail)).tell od a 0 i.message) d w i h t d1 l)
   (λh t v b l=>∃i d1,T=0/\nE p.room p.prog B a (s.last+1) aa V=some i/\OZ p ((s.put a (B,i.state,i.mail)).tell od a 0 i.message) d w i h t d1 l/\b=Sy.made p.n p.prog p.room ((s.put a (B,i.state,i.mail)).tell od a 0 i.message) i.spawns/\(b=true->∃U aO aP c,v=ae aO t.pl aP/\U.length=t.pl/\w.heap.size<=c/\(∀h,c<=h->d1.ow h=0)/\l.ownsRow c 65 1 v t.pl (U.map Al)/\l7 p.lo p.room (d1.k+201) (λh=>v.ownBlock=some h) l.heap.size l i.spawns U c))
   (λv w'=>v=P.2/\∃E,bj p P.1 E w'/\fI 201 402 d E w w') be aX ⟨a8,a9,ba⟩ (by rw[ad];rfl) ((λg=>by cases g)) (λ_ l ay=>?_) (λh t Z l aQ bo=>?_) (λh t l aQ=>?_) (λh t l F=>?_) (λh t l F=>?_) (λh t v b l F=>?_) (λh t v b l F N=>?_) (λh t v l F N=>?_) λh t v l F N=>?_
  ·have W:=q.later ay;have J:=cG (dV (p.n+1)) 2 (pH (p.n+1)) p.pa;refine((bI.later ay).step p.prog p.pa p.pc l.heap.size W.pg.1.1 (am _) q.pg.2.1 q.pg.2.2.1 (λ_=>q.pg.2.2.2.2) (λbC ax=>J.2.2.1 _ _ _ bC _ (λb h=>ax.block b h.2 λg=>by have:=h.1;rw[g]at this;omega) (J.2.1 _ _ _ _ W.pg.1.2 W.pg.1.1) W.pg.1.1) (az bO ay.size) (by omega) (by omega) a (s.last+1)).mono ?_;rintro e w' (⟨Z,rfl,y⟩|⟨r,f,sa,sl,sc,pa,pl,pc,ka,kl,kc,rfl,y⟩)
   ·obtain⟨K,R,G⟩:=y.out;have bc:=(W.later G).cells;exact⟨⟨0,0,⟨#[]⟩,none,0,0,0,none,0,0,none,0,0,none,0,0⟩,Z,rfl,ah ⟨K,R.trans aS.symm,G⟩,λh _ aV=>G.block h aV,G.size,bc.1,bc.2.2.1⟩
   ·obtain⟨i,J,K,R,G,al,L,bW,bX,aJ,bY,bV⟩:=y.out;have bb:w'.heap[p.b]?=some (.cells (dX p s d) 74):=(aJ.block p.b (aR aX ay.size) (by rw[q.own];omega)).trans W.box;exact⟨⟨r.1.1,r.1.2.1,r.1.2.2,r.2.1.1,r.2.2.length,r.2.1.2,f,sa,sl,sc,pa,pl,pc,ka,kl,kc⟩,0,rfl,ai ⟨rfl,aS.trans K,r,i,J,⟨rfl,rfl,rfl⟩,R,G,al,L,bW,bX,aJ,bY,bV⟩,λh aw bJ=>aJ.block h bJ (by rw[aD h aw];omega),aJ.size,ag bb 0,ag bb 2⟩
  ·obtain⟨Q,aq,K,R,G,al,L⟩:=aQ;rcases R with⟨_,e,bZ⟩|⟨e,_⟩
   ·rw[if_neg (by rw[<-e];exact bo)]at m;have ax:bt (λb=>b=h) w l:=((aK K λb=>b=h).trans (aK bZ λb=>b=h) λ_ _ e=>e).trans L λ_ _ e=>e;rw[m];exact⟨e,d,q.kept ax λb g=>by rw[g];exact aD h G.1,ax.mono λb aB g=>by omega,λ_ _=>rfl,by omega,by omega,by omega,by omega⟩
   ·exact absurd e bo
  ·obtain⟨Q,aq,K,R,G,al,L⟩:=aQ;rcases R with⟨e,_⟩|⟨_,bK,r,i,J,⟨f1,f2,f3⟩,b0,b2,b3,b4,bp,b5,Y,cz,bq,cy,b1⟩
   ·exact absurd rfl e
   have bN:bt (λh=>d.ow h=a) Q aq:=⟨Y.os,Y.tape,Y.output,Y.size,Y.block⟩;have ct:=K.size;have cu:=Y.size;have cv:=L.size
   obtain⟨bv,bw⟩:=(q.later K).turnP aE hg bN (j:=d.k+402) (λh g=>by
    rcases g.1 with g|g
    ·exact ah g
    ·exact ai (by omega)) (by omega) (bq.mono (λ_ g=>g) (by omega) (P1.lie2 bq)) (by omega)
   generalize aU:({d with ow:=Fq d Q aq a,k:=d.k+402}:fT)=d1 at bv bw;have bf:∀b,d1.ow b=if Q.heap.size<=b/\b<aq.heap.size then a else d.ow b:=λb=>by rw[<-aU];rfl
   have aW:d1.ow h=0:=by
    rw[bf,if_neg (by omega)];exact aD h G.1
   have bh:∀b,Q.heap.size<=b->0<=d1.ow b:=λb aB=>by
    rw[bf];split
    ·omega
    ·rw[aD b (by omega)];exact jh 0
   have aw:bj p (s.put a (B,i.state,i.mail)) d1 l:=bv.kept L λb g=>by rw[g];exact aW
   have bS:fI 0 402 d d1 w l:=by
    have z:=((dS.later d K).un.trans bw);obtain⟨ca,cb,cc,cd,ce,cf⟩:=z;exact⟨ca.trans L λb aB g=>by omega,cb,by rw[<-aU]at cc ⊢;show d.k+402<=_;omega,cd,ce,cf⟩
   have bU:=eS L (D:=λb=>Q.heap.size<=b/\b<aq.heap.size) (λb g ci=>by omega) ⟨bp,In.offB (b5.mono λb g=>g.1) bp⟩;have bL:FL i t d1 l:=by
    obtain⟨au,aM,aN,A,o,x,H,S,O,an,a5,b6⟩:=b1.kept L λb cg _ cB cC=>by omega
    have bd:∀{a4:Nat}{ar:Tm a4},In l.heap.size l a4 ar->ch (λb=>Q.heap.size+1<=b/\True) a4 ar->FH d1 l ar:=λbD bE=>⟨bD,bE.mono λb g=>bh b (by omega)⟩;refine⟨au,_,aM,aN,A,o,x,H,S,O,λg I=>⟨(an g I).1,bd (an g I).2.1 (an g I).2.2⟩,λg I=>⟨(a5 g I).1,bd (a5 g I).2.1 (a5 g I).2.2⟩,λb g=>⟨?_,bh b (by have:=(b6 b g).1;omega)⟩⟩;rcases g with g|g|g
    ·exact(o.lt b g).2
    ·exact(x.lt b g).2
    ·exact(H.lt b g).2
   obtain⟨⟨cA,cg,ci⟩,⟨cD,cE⟩,cF⟩:=r;simp only[eh]at f1 f2;obtain⟨rfl,rfl,rfl⟩:=f1;obtain⟨rfl,rfl⟩:=f2;rw[<-f3];have bM:d1.es=d.es:=by rw[<-aU]
   refine(aw.tell od a 0 _ _ _ _ _ _ _ (ku bU.1 b4) (by rw[bM];omega)).mono ?_;rintro e w' ⟨rfl,y⟩;obtain⟨d2,M,C⟩:=y.out.up aw;have bi:=(aF.1 al).1;have cw:=C.1.size;rw[b3]at M;refine⟨rfl,i,d2,bK,b0,M,(bS.trans C.un).mono (by omega) (by omega),⟨G.1,by omega,by rw[C.2.1 h bi];exact aW,?_⟩,b2,bL.kee C.1 C.2.1⟩;rw[C.1.block h bi (by rw[aW];decide)];exact al
  ·obtain⟨i,d1,z,u,⟨A,o,x,H,S⟩⟩:=F;obtain⟨au,a7,aM,aN,X,aZ,a0,a1,a2,af,a3,aG,aI⟩:=S;have aY:=KP bg u;have cs:t.pl<=8:=by
    have:=aY.1.2.1;rw[<-af,ee]at this;omega
   refine(A.made a0 X.2.1 (by omega) λg I=>⟨(aG g I).1,(aG g I).2.1⟩).mono ?_;rintro e w' ⟨v,b,rfl,y⟩;obtain⟨ap,br,bs⟩:=y.out;rw[af]at br bs;have bQ:∀h,l.heap.size<=h->d1.ow h=0:=λh aV=>by
    by_cases g:d1.ow h=0
    ·exact g
    ·have:=(A.low h g).2;omega
   refine⟨v,b,rfl,i,d1,z,u,⟨A.later ap,(o.trans (dS.later d1 ap).un).mono (am _) (am _),⟨x.1,aR x.2.1 ap.size,x.2.2.1,ge ap x.2.2.2⟩,H,FL.kee ⟨au,a7,aM,aN,X,aZ,a0,a1,a2,af,a3,aG,aI⟩ (aK ap _) λ_ _=>rfl⟩,br,λaB=>?_⟩;obtain⟨U,aO,aP,b8,a6,bx,aL⟩:=bs aB;exact⟨U,aO,aP,l.heap.size,b8,a6,o.1.size,bQ,bx,aL⟩
  ·obtain⟨i,d1,z,u,A,o,x,_⟩:=F;exact x.2.2.2
  ·obtain⟨i,d1,z,u,⟨A,o,x,_⟩,_⟩:=F;exact x.2.2.2
  ·obtain⟨i,d1,z,u,⟨A,o,x,H,S⟩,_⟩:=F;rw[if_pos z,u]at m;simp only at m;rw[H]at N ⊢;rw[if_pos N]at m;refine(A.fin aT (by have:=o.2.2.2.1;omega)).mono ?_;rintro e w' ⟨rfl,y⟩;obtain⟨d2,M,C⟩:=y.out;rw[m];exact⟨rfl,rfl,d2,M,(o.trans C.un).mono (by omega) (by omega)⟩
  ·obtain⟨i,d1,z,u,⟨A,o,x,H,S⟩,O,_⟩:=F;rw[if_pos z,u]at m;simp only at m;rw[H]at N;rw[if_neg N,if_pos O.symm]at m;have bk:=congrArg Prod.fst m;have bl:=congrArg Prod.snd m;dsimp only at bk bl;refine(A.fin (how:=2) aT (by have:=o.2.2.2.1;omega)).mono ?_;rintro e w' ⟨rfl,y⟩;obtain⟨d2,M,C⟩:=y.out;rw[<-bk]at M;exact⟨rfl,bl.symm,d2,M,(o.trans C.un).mono (by omega) (by omega)⟩
  ·obtain⟨i,d1,z,u,⟨A,o,x,H,S⟩,O,an⟩:=F;rw[if_pos z,u]at m;simp only at m;rw[H]at N;have bR:¬Sy.made p.n p.prog p.room ((s.put a (B,i.state,i.mail)).tell od a 0 i.message) i.spawns=false:=λg=>Bool.noConfusion (O.trans g);rw[if_neg N,if_neg bR]at m;obtain⟨U,aO,aP,c,rfl,a6,bx,aL,bA,b9⟩:=an rfl;obtain⟨au,a7,aM,aN,X,aZ,a0,a1,a2,af,a3,aG,aI⟩:=S;have aY:=KP bg u;have bm:i.spawns.length=t.pl:=by rw[<-af,ee];exact X.2.1
   have bP:Sy.may ((s.put a (B,i.state,i.mail)).tell od a 0 i.message) t.pl=true:=by
    unfold Sy.made at O;rw[bm]at O;exact(Bool.and_eq_true_iff.1 O.symm).1
   have hF:=A.follow (pa:=t.pa) (pl:=t.pl) (pc:=t.pc) aT i aY t.y0 t.y1 t.y2 t.ya t.yl t.yc aZ a1 bA ⟨X.1,X.2.2,a6,bm⟩ a2 a3 (λb g=>?_) b9 (am _) (λh g _=>aL h g) bP (by have:=o.2.2.1;omega) (by have:=o.2.2.2.1;omega) (by have:=o.2.2.2.2.1;omega) (by have:=o.2.2.2.2.2;omega)
   ·rw[<-H]at hF;refine hF.mono ?_;rintro e w' ⟨rfl,y⟩;obtain⟨d2,M,C⟩:=y;rw[m];exact⟨rfl,rfl,d2,M,o.ug C λh g=>by omega⟩
   ·rcases g with g|g|g
    ·exact(aI b (ah g)).2
    ·exact(aI b (ai (ai g))).2
    ·rw[aL b (bA.lt b g).1];exact jh 0
end
theorem KF(o:Nat)(kd a b p q:Int)(r:ByteArray)(xa:Option Addr)(s xc:Nat)(w:World)(R:Int->World->Prop)(l:Hid (kd=1->∀W,aj w W->ak 24 #[aC o,ab a] W λe w'=>∃v,e=.returned (ab v)/\Hid (R v w')))(h:Hid (kd=2->∀W,aj w W->ak 25 #[aC o,ab a,ab b] W λe w'=>∃v,e=.returned (ab v)/\Hid (R v w')))(k:Hid (kd=3->∀W,aj w W->ak 26 #[aC o,ab a,.agg #[ab p,ab q,af r,ae xa s xc]] W λe w'=>∃v,e=.returned (ab v)/\Hid (R v w')))(j:Hid (¬(kd=1\/kd=2\/kd=3)->∀W,aj w W->R 1 W)):ak 8 #[aC o,.agg #[ab kd,ab a,ab b,ab p,ab q,af r,ae xa s xc]] w λe w'=>∃v,e=.returned (ab v)/\Hid (R v w'):=by
 go_enter func8,ntmps8;go_upto_region 1 with fail;generalize u:w.alloc _=c;have HB:Hid (aj w c):=by
  rw[<-u];exact(ao _ _).alloc (am _) _
 have d:c.heap[w.heap.size]?=some (.cells #[ab kd,ab a,ab b,ab p,ab q,af r,ae xa s xc] 33):=by
  rw[<-u];exact aA _ _
 generalize w.heap.size=f at*;clear u;have d0:c.cell? ⟨f,0,none⟩=some (ab kd):=ag d 0;have d1:c.cell? ⟨f,1,none⟩=some (ab a):=ag d 1;have d2:c.cell? ⟨f,2,none⟩=some (ab b):=ag d 2;have d3:c.cell? ⟨f,3,none⟩=some (ab p):=ag d 3;have d4:c.cell? ⟨f,4,none⟩=some (ab q):=ag d 4;have d5:c.cell? ⟨f,5,none⟩=some (af r):=ag d 5;have d6:c.cell? ⟨f,6,none⟩=some (ae xa s xc):=ag d 6;clear d;by_cases m:kd=1
 ·have i:=ap (l m _ HB);subst m;clear l h k j;go_wp2_with fail;refine i.mono ?_;rintro e y ⟨v,rfl,g⟩;go_wp2_with fail
  go_ret
  exact⟨v,rfl,g⟩
 have x:(kd==1)=false:=by simpa using m
 by_cases n:kd=2
 ·have i:=ap (h n _ HB);subst n;clear l h k j m x;go_wp2_with fail;refine i.mono ?_;rintro e y ⟨v,rfl,g⟩;go_wp2_with fail
  go_ret
  exact⟨v,rfl,g⟩
 have A:(kd==2)=false:=by simpa using n
 by_cases t:kd=3
 ·have i:=ap (k t _ HB);subst t;clear l h k j m x n A;go_wp2_with fail;refine i.mono ?_;rintro e y ⟨v,rfl,g⟩;go_wp2_with fail
  go_ret
  exact⟨v,rfl,g⟩
 have B:(kd==3)=false:=by simpa using t
 have z:=ap (j (by omega) _ HB);clear l h k j;go_wp2_with fail
 go_ret
 exact⟨1,rfl,z⟩
section
variable {p:jY} {s:Sy} {d:fT} {w:World}
theorem bj.do(o:bj p s d w){kd a b:Int}(u:I2 (a,b)){m:Nat}(x:Tm (m+1))(y:In w.heap.size w (m+1) x/\ch (λq=>¬1<=d.ow q) (m+1) x)(A:(ay (m+1) x).length<=2097152)(C:d.k<=46000)(z:d.es.length<=96000)(D:d.wn<=800000)(B:d.bn<=800000):ak 8 #[aC p.b,.agg #[ab kd,ab a,ab b,ab x.1.1,ab x.1.2.1,af x.1.2.2,ae x.2.1.1 x.2.2.length x.2.1.2]] w λe w'=>∃v,e=.returned (ab v)/\Hid (v=(s.do p.n p.prog p.room kd a b (m+1) x).2/\∃f,bj p (s.do p.n p.prog p.room kd a b (m+1) x).1 f w'/\fI 201 402 d f w w'):=by
 obtain⟨r,g⟩:∃r,r=s.do p.n p.prog p.room kd a b (m+1) x:=⟨_,rfl⟩;rw[<-g];unfold Sy.do at g;refine KF p.b kd a b x.1.1 x.1.2.1 x.1.2.2 x.2.1.1 x.2.2.length x.2.1.2 w (λv w'=>v=r.2/\∃f,bj p r.1 f w'/\fI 201 402 d f w w') (λe t c=>?_) (λe t c=>?_) (λe t c=>?_) λe t c=>?_
 ·rw[if_pos e]at g;refine((o.later c).run u.1 C z D B).mono ?_;rintro e w' ⟨v,rfl,h⟩;obtain⟨i,f,j,l⟩:=h.out;rw[g];exact⟨v,rfl,i,f,j,((dS.later d c).un.trans l).mono (by omega) (by omega)⟩
 ·rw[if_neg (by omega),if_pos e]at g;refine((o.later c).arrive u (by omega) (by omega) (by omega)).mono ?_;rintro e w' ⟨v,rfl,h⟩;obtain⟨i,f,j,l⟩:=h.out;rw[g];exact⟨v,rfl,i,f,j,((dS.later d c).un.trans l).mono (by omega) (by omega)⟩
 ·rw[if_neg (by omega),if_neg (by omega),if_pos e]at g;refine((o.later c).inject u.1 x ⟨(y.1.below c).mono c.size,y.2⟩ A (by omega) (by omega)).mono ?_;rintro e w' ⟨v,rfl,h⟩;obtain⟨i,f,j,l⟩:=h;rw[g];exact⟨v,rfl,i,f,j,((dS.later d c).un.trans l).mono (by omega) (by omega)⟩
 ·rw[if_neg (by omega),if_neg (by omega),if_neg (by omega)]at g;rw[g];exact⟨rfl,d,o.later c,(dS.later d c).un.mono (by omega) (by omega)⟩
end
theorem Hu(y:Option Addr)(A z:Nat)(room E:Int)(w:World)(m:Int->Int->ByteArray->Option Addr->Nat->Nat->World->Prop)(q:Option Addr->Nat->Nat->World->Prop)(R:Value->Int->World->Prop)(x:Hid (ak 37 #[ae y A z] w λe w'=>∃y0 y1 y2 ya yl yc,e=.returned (.tuple #[.agg #[ab y0,ab y1,af y2,ae ya yl yc],ab E])/\Hid (m y0 y1 y2 ya yl yc w')))(i:Hid (E=0->(0<=room/\room<=1000)->∀y0 y1 y2 ya yl yc W b,m y0 y1 y2 ya yl yc W->aj W b->ak 38 #[.agg #[ab y0,ab y1,af y2,ae ya yl yc]] b λe w'=>∃a l c u,e=.returned (.tuple #[ae a l c,ab u])/\Hid (q a l c w')))(g:Hid (∀y0 y1 y2 ya yl yc W b,m y0 y1 y2 ya yl yc W->aj W b->(E≠0->R (.pointer none) E b)/\(E=0->¬(0<=room/\room<=1000)->R (.pointer none) 1 b)))(j:Hid (∀a l c W,E=0->(0<=room/\room<=1000)->q a l c W->R (aC W.heap.size) 0 (W.alloc (.cells #[ae a l c,ab room,ab 0,.map none,.map none,.map none,ae none 0 0] 74)))):ak 18 #[ae y A z,ab room] w λe w'=>∃v u,e=.returned (.tuple #[v,ab u])/\Hid (R v u w'):=by
 go_enter func18,ntmps18;go_wp2_with fail;refine x.mono ?_;rintro e h ⟨y0,y1,y2,ya,yl,yc,rfl,d⟩;clear x;have k:Hid (∀o,aj h (h.alloc o)):=λo=>(ao _ _).alloc (am _) o;by_cases n:E=0;rotate_left
 ·have f:Hid (∀o,R (.pointer none) E (h.alloc o)):=λo=>(g _ _ _ _ _ _ _ _ d (k o)).1 n;have F:(E==0)=false:=by simpa using n
  clear i g j d;go_wp2_with fail;exact av (v:=.tuple #[.pointer none,ab E]) (by simp[results,results18,go_sem]) rfl ⟨_,_,rfl,f _⟩
 subst n;by_cases p:0<=room/\room<=1000;rotate_left
 ·have f:Hid (∀o,R (.pointer none) 1 (h.alloc o)):=λo=>(g _ _ _ _ _ _ _ _ d (k o)).2 rfl p;clear i g j d;by_cases B:room<0
  ·go_wp2_with fail;exact av (v:=.tuple #[.pointer none,ab 1]) (by simp[results,results18,go_sem]) rfl ⟨_,_,rfl,f _⟩
  ·have C:1000<room:=by omega
   go_wp2_with fail;exact av (v:=.tuple #[.pointer none,ab 1]) (by simp[results,results18,go_sem]) rfl ⟨_,_,rfl,f _⟩
 have s:=ap (λb=>i rfl p y0 y1 y2 ya yl yc h b d);have t:=ap (λa l c W=>j a l c W rfl p);have B:¬room<0:=by omega
 have C:¬1000<room:=by omega
 clear i j g d;go_wp2_with fail;refine(s _ (k _)).mono ?_;rintro e D ⟨a,l,c,u,rfl,r⟩;have f:=ap (t _ _ _ _ r);clear s t r;go_wp2_with fail;exact av (v:=.tuple #[aC D.heap.size,ab 0]) (by simp[results,results18,go_sem]) rfl ⟨_,_,rfl,f⟩
def MW:Sy:=⟨0,[],λ_=> [],λ_=>false,[]⟩
def lw(n:Nat)(l:List (Bh (n+1)))(room:Int):Int:=if lP n l≠0 then lP n l else if 0<=room/\room<=1000 then 0 else 1
def NS(n:Nat)(l:List (Bh (n+1)))(room:Int)(w:World)(v:Value)(u:Int)(w':World):Prop:=
 u=lw n l room/\aj w w'/\(u≠0->v=.pointer none)/\(u=0->∃(a:jY)(c:fT),v=aC a.b/\bj a MW c w'/\(c.k=0/\c.es=[]/\c.wn=0/\c.bn=0)/\a.room=room/\a.lo=w.heap.size/\a.n=n+5/\ax (a.n+6) (bW a.n a.prog) (n+6) (bW n l)=true)
theorem Ce(n:Nat)(l:List (Bh (n+1)))(z:Option Addr)(q:Nat)(room:Int)(w:World)(U:gh (n+1) w.heap.size w z l)(V:l.length<=q)(W:q<=maxLen)(G:kA (n+1) l=true->(ay (n+6) (bW n l)).length<=2097152):ak 18 #[ae z l.length q,ab room] w λe w'=>∃v u,e=.returned (.tuple #[v,ab u])/\Hid (NS n l room w v u w'):=by
 refine Hu z l.length q room (lP n l) w (λy0 y1 y2 ya yl yc d=>aj w d/\∃f:Tm (n+6),(f.1=(y0,y1,y2)/\f.2.1=(ya,yc)/\f.2.2.length=yl)/\In d.heap.size d (n+6) f/\ax (n+6) f (n+6) (KY n l)=true)
  (λi h c d=>∃g:List (Bh (n+6)),g.length=h/\(∃B,aj w B/\aj B d)/\(h<=c/\c<=maxLen)/\gh (n+6) d.heap.size d i g/\tD (jS (n+6) λb=>w.heap.size<=b) (λb=>w.heap.size<=b) i g/\lP (n+5) g=0/\ax (n+11) (bW (n+5) g) (n+6) (bW n l)=true) (NS n l room w) ?_ (λj x y0 y1 y2 ya yl yc d r p o=>?_) (λy0 y1 y2 ya yl yc d r p o=>⟨λj=>?_,λj x=>?_⟩) λi h c d j x hF=>?_
 ·refine(KZ n l z q V W w.heap.size w U (am _) G).mono ?_;rintro e w' ⟨f,rfl,A⟩;obtain⟨O,P,al,Q⟩:=A.out;exact⟨f.1.1,f.1.2.1,f.1.2.2,f.2.1.1,f.2.2.length,f.2.1.2,rfl,O,f,⟨rfl,rfl,rfl⟩,P,Q⟩
 ·obtain⟨m,f,⟨f1,f2,f3⟩,E,y⟩:=p;obtain⟨⟨aw,az,aB⟩,⟨aC,aD⟩,aE⟩:=f;simp only[eh]at f1 f2;obtain⟨rfl,rfl,rfl⟩:=f1;obtain⟨rfl,rfl⟩:=f2;subst f3;obtain⟨t1,t2,t3⟩:=Ii j y;refine(A8 (n+5) (n+6) (am _) _ r.heap.size r ((E.below o).mono o.size) (fi t1) (am _)).mono ?_;rintro e w' ⟨g,i,c,rfl,A⟩;obtain⟨aa,ad,af,ag,aq,ai⟩:=A;obtain⟨a,Y,Z⟩:=ai t2;obtain⟨ar,L,M,au,av⟩:=t3 a g Y Z;have H:=m.trans (o.mono m.size);have ap:=H.size;have h:=cG (dV (n+6)) 2 (pH (n+6)) i;rw[(fq L).2.2,(fq j).2.2]at M;exact⟨i,g.length,c,_,rfl,g,rfl,⟨r,H,aa⟩,ad,af,h.1 _ _ _ (λb a=>by omega) ag,L,M⟩
 ·have m:=p.1.trans (o.mono p.1.size);exact⟨by unfold lw;rw[if_pos j],m,λ_=>rfl,λa=>absurd a j⟩
 ·have m:=p.1.trans (o.mono p.1.size);exact⟨by unfold lw;rw[if_neg (by rw[j];decide),if_neg x],m,λ_=>rfl,(λa=>by cases a)⟩
 ·obtain⟨g,rfl,⟨B,F,N⟩,I,D,J,X,y⟩:=hF;have m:=F.trans (N.mono F.size);have K:=m.size;have s:aj d (d.alloc (.cells #[ae i g.length c,ab room,ab 0,.map none,.map none,.map none,ae none 0 0] 74)):=(ao _ _).alloc (am _) _;generalize R:d.alloc (.cells #[ae i g.length c,ab room,ab 0,.map none,.map none,.map none,ae none 0 0] 74)=C at s;have t:C.heap[d.heap.size]?=some (.cells #[ae i g.length c,ab room,ab 0,.map none,.map none,.map none,ae none 0 0] 74):=by
   rw[<-R];exact aA _ _
  have an:=(aF.1 t).1;refine⟨by unfold lw;rw[if_neg (by rw[j];decide),if_pos x],m.trans (s.mono m.size),λa=>absurd rfl a,λ_=>⟨⟨w.heap.size,d.heap.size,room,n+5,g,i,c⟩,⟨λb=>if b=d.heap.size then -5 else if w.heap.size<=b/\b<d.heap.size then -4 else 0,none,[],none,0,λ_=> [],λ_=>mC,none,0,ae none 0 0,[],0⟩,rfl,?_,⟨rfl,rfl,rfl,rfl⟩,rfl,rfl,rfl,y⟩⟩;have h:=cG (dV (n+6)) 2 (pH (n+6)) i;refine⟨λb a=>?_,t,if_pos rfl,⟨⟨?_,?_⟩,I.1,I.2,X,?_⟩,ah ⟨rfl,rfl⟩,⟨rfl,List.nodup_nil,by simp[MW],by decide,by decide,by simp[MW]⟩,?_,⟨⟨K,(qB t).1,ah ⟨rfl,rfl,rfl⟩⟩,?_,λ_=>rfl,λ_=>aH _,?_⟩,⟨⟨K,(qB t).2,ah ⟨rfl,rfl⟩⟩,?_,(λb a=>by cases a)⟩,⟨eK _ _ _ _,(λb a=>by cases a)⟩,rfl,(λe S=>by cases S)⟩
  ·have a:(if b=d.heap.size then (-5:Int)else if w.heap.size<=b/\b<d.heap.size then -4 else 0)≠0:=a;show w.heap.size<=b/\b<C.heap.size;split at a
   ·omega
   ·split at a
    ·omega
    ·exact absurd rfl a
  ·exact h.2.2.2.1 _ _ _ _ s.size (h.2.2.1 _ _ _ C _ (λb a=>s.block b a.2) (h.2.1 _ _ _ _ J D) D)
  ·refine h.1 _ _ _ (λb a=>?_) (h.2.1 _ _ _ _ J D);exact(if_neg (by omega)).trans (if_pos ⟨a.1,a.2⟩)
  ·rw[kD _ _ _ _ y];exact G (fq j).1
  ·intro k b a;cases a
  ·intro b a;rcases a with a|a|⟨k,_,a⟩
   ·exact ah a
   ·cases a
   ·cases a
  ·intro k f E;cases E
  ·intro k T;cases T
theorem AM(xs:List Value)(g len c:Nat)(w:World)(v:Hid (xs.length=len*7))(s:Hid (∀u∈xs,u.oneCell'=true))(E:len<=2000000)(x:Hid (∀w1,aj w w1->∀j u,xs[j]?=some u->w1.cell? ((⟨g,0,none⟩:Addr).add j)=some u)):ak 55 #[ae (some ⟨g,0,none⟩) len c] w λe w'=>∃q,e=.returned q/\Hid (aj w w'/\w'.ownsRow w.heap.size 54 7 q len xs):=by
 obtain⟨C,i,m,o,p⟩:=bR JL;have a:=ap (⟨i,m,o,p⟩:_/\_/\_/\_);clear i m o p;have F:∀(w:World)(b:Option Addr)(n c f d:Nat),(binOp .eql 38 (ae b n c) (ae none f d)).run Tryz.prog w=.ok (.bool b.isNone) w:=λw b n c f d=>Lib.run_eql_slice_nil w _ _ b n c f d underlying38;have D:(some (⟨g,0,none⟩:Addr)).isNone=false:=rfl;go_enter func55,ntmps55;go_wp2_with (at_builtin;refine wpList_append_own _ rfl _ _ 38 rfl w.heap.size 54 C _ 7 88 underlying38 a.1 a.2.1 a.2.2.1 a.2.2.2 rfl (by decide) _ _ _ rfl (World.ownsRow_made w #[] 0 (am _) (aH _) (by simp)) ⟨g,0,none⟩ len c xs rfl ?qc1 ?qc2 ?qc3 ?qc4 ?qc5 ?qc6 ?_)
 case qc1=>exact v
 case qc2=>exact x _ ((ao _ _).alloc (am _) _)
 case qc3=>exact s
 case qc4=>unfold maxLen;omega
 case qc5=>omega
 case qc6=>simp
 intro r w1 l h A;have t:Hid (aj w w1/\w1.ownsRow w.heap.size 54 7 r len xs):=by
  have y:aj w w1:=Below.grown ((ao _ _).alloc (am _) _) h (by simp) (by intro k z;simp[Value.ownBlock]at z;omega);have B:w1.ownsRow w.heap.size 54 7 r len xs:=by simpa using l
  exact⟨y,B⟩
 clear l h A;go_wp2_with fail
 go_ret
 exact⟨_,rfl,t⟩
theorem AL(c:Nat)(w:World):ak 55 #[ae none 0 c] w λe w'=>e=.returned (ae none 0 0)/\w'=w:=by
 have g:∀(w:World)(a:Option Addr)(n c d b:Nat),(binOp .eql 38 (ae a n c) (ae none d b)).run Tryz.prog w=.ok (.bool a.isNone) w:=λw a n c d b=>Lib.run_eql_slice_nil w _ _ a n c d b underlying38;have f:(none:Option Addr).isNone=true:=rfl;go_enter func55,ntmps55;go_wp2_with fail
 go_ret
 exact⟨rfl,rfl⟩
theorem JB(h:Nat)(q:Option Addr)(L d:Nat)(v x:Nat->Int)(y:Nat->ByteArray)(xa:Nat->Option Addr)(z xc:Nat->Nat)(w:World)(k:Option Addr->Nat->Nat->World->Prop)(E:h<w.heap.size)(N:L<=1000000)(O:L<=d)(F:q=none/\L=0/\d=0\/∃g,q=some ⟨g,0,none⟩)(r:Hid (w.cell? ⟨h,6,none⟩=some (ae q L d)))(s:Hid (∀W,aj w W->ak 55 #[ae q L d] W λe w'=>∃a c,e=.returned (ae a L c)/\Hid (aj W w'/\k a c 0 w')))(t:Hid (∀a c j W,j<L->k a c j W->∃g,a=some ⟨g,0,none⟩/\W.cell? ⟨g,j*7+3,none⟩=some (ab (v j))/\W.cell? ⟨g,j*7+3+1,none⟩=some (ab (x j))/\W.cell? ⟨g,j*7+3+2,none⟩=some (af (y j))/\W.cell? ⟨g,j*7+3+3,none⟩=some (ae (xa j) (z j) (xc j))/\ Hid (ak 56 #[.agg #[ab (v j),ab (x j),af (y j),ae (xa j) (z j) (xc j)]] W λe w'=>∃y0 y1 y2 ya yl yc,e=.returned (.agg #[ab y0,ab y1,af y2,ae ya yl yc])/\Hid ((w'.frozen? ⟨g,j*7+3,none⟩=false/\w'.frozen? ⟨g,j*7+3+1,none⟩=false/\w'.frozen? ⟨g,j*7+3+2,none⟩=false/\w'.frozen? ⟨g,j*7+3+3,none⟩=false)/\(w'.cell? ⟨g,j*7+3,none⟩=some (ab (v j))/\w'.cell? ⟨g,j*7+3+1,none⟩=some (ab (x j))/\w'.cell? ⟨g,j*7+3+2,none⟩=some (af (y j))/\w'.cell? ⟨g,j*7+3+3,none⟩=some (ae (xa j) (z j) (xc j)))/\k a c (j+1) (dd w' g (j*7+3) (ab y0) (ab y1) (af y2) (ae ya yl yc)))))):ak 29 #[aC h,ab 0] w λe w'=>∃a c,e=.returned (ae a L c)/\Hid (k a c L w'):=by
 have b:Hid (aj w w.drew):=(ao _ _).drew;have i:Hid (∀W,aj w W->W.cell? ⟨h,6,none⟩=some (ae q L d)):=λW C=>(C.cell (p:=⟨h,6,none⟩) E).trans r;have M:=r.out;have S:¬((L:Int)<0):=by omega
 have T:(0:Int)<=(L:Int):=by omega
 have U:(L:Int)<=(d:Int):=by omega
 have V:¬((d:Int)<(L:Int)):=by omega
 have X:¬(d<L):=by omega
 have Y:min (0:Int) (L:Int)=0:=by omega
 go_enter func29,ntmps29;go_upto_region 1 with fail;rcases F with⟨rfl,rfl,rfl⟩|⟨B,rfl⟩
 ·go_region_held3 (λW=>W.cell? ⟨h,6,none⟩=some (ae none 0 0)) (first|exact i _ b|exact i _ m) ((first
    | (go_at_call 55;refine(s _ b).mono ?_;rintro e G ⟨a,c,rfl,f⟩;have m:=ap (b.trans (f.1.mono b.size)))))
  have l:=ap f.2;clear s r i b m t f;go_wp2_with fail;go_loopw [6,23] (λ_ o wr=>o=ab 0/\Hid (k a c 0 wr)) (λ_ _ _=>0)
  case atStart=>exact⟨rfl,l⟩
  case round=>
  obtain⟨rfl,n⟩:=hrel;clear l;go_wp2_with fail
  go_ret
  exact⟨a,c,rfl,n⟩
 ·go_region_held3 (λW=>W.cell? ⟨h,6,none⟩=some (ae (some ⟨B,0,none⟩) L d)) (first|exact i _ b|exact i _ m) ((first
    | (go_at_call 55;refine(s _ b).mono ?_;rintro e G ⟨a,c,rfl,f⟩;have m:=ap (b.trans (f.1.mono b.size)))))
  clear s r i b m;have l:=ap f.2;clear f;go_wp2_with fail;go_loopw [6,23] (λ_ o wr=>∃(j:Nat),j<=L/\o=ab j/\Hid (k a c j wr)) (λ_ o _=>L-(intOf o).toNat)
  case atStart=>exact⟨0,aH _,rfl,l⟩
  case round=>
  obtain⟨j,P,rfl,n⟩:=hrel;by_cases D:j<L
  ·obtain⟨g,rfl,H,I,J,K,A⟩:=t.out a c j wr D n;have Q:(0:Int)<=(j:Int):=by omega
   have R:(j:Int)<(L:Int):=by omega
   clear t n;go_wp2_with fail;refine A.mono ?_;rintro e Z ⟨y0,y1,y2,ya,yl,yc,rfl,u⟩;obtain⟨⟨f0,f1,f2,f3⟩,d0,d1,d2,d3⟩:=(⟨u.1,u.2.1⟩:_/\_);go_wp2_with fail;go_roundw
   case rel=>exact⟨j+1,by omega,by go_num,u.2.2⟩
   case measure=>simp[intOf];omega
  ·obtain rfl:j=L:=by omega
   clear t l;go_wp2_with fail
   go_ret
   exact⟨a,c,rfl,n⟩
theorem CV(G:Option Addr)(I H:Nat)(room:Int)(sa:Option Addr)(sl sc:Nat)(nm s:Nat->ByteArray)(q r:Nat->Int)(xa:Nat->Option Addr)(t xc:Nat->Nat)(w:World)(x:Value->Int->World->Prop)(l:Nat->Nat->World->Prop)(R:Value->World->Prop)(U:sl<=9223372036854775807)(E:Hid (ak 18 #[ae G I H,ab room] w λe w'=>∃v u,e=.returned (.tuple #[v,ab u])/\Hid (x v u w')))(h:Hid (∀v u W,x v u W->(u≠0\/4<sl)->R (.pointer none) W))(n:Hid (∀v W,x v 0 W->sl<=4->∃a,v=aC a/\l a 0 W))(k:Hid (∀a j W,j<sl->l a j W->∃g o,(sa=some ⟨g,o,none⟩/\W.cell? ⟨g,o+j*5,none⟩=some (af (nm j))/\W.cell? ⟨g,o+j*5+1,none⟩=some (ab (q j))/\W.cell? ⟨g,o+j*5+2,none⟩=some (ab (r j))/\W.cell? ⟨g,o+j*5+3,none⟩=some (af (s j))/\W.cell? ⟨g,o+j*5+4,none⟩=some (ae (xa j) (t j) (xc j)))/\Hid (∀F,aj W F->ak 20 #[aC a,af (nm j),.agg #[ab (q j),ab (r j),af (s j),ae (xa j) (t j) (xc j)]] F λe w'=>∃v u,e=.returned (.tuple #[ab v,ab u])/\Hid (l a (j+1) w'))))(f:Hid (∀a W,l a sl W->R (aC a) W)):ak 6 #[ae G I H,ab room,ae sa sl sc] w λe w'=>∃v,e=.returned v/\Hid (R v w'):=by
 go_enter func6,ntmps6;go_wp2_with fail;refine E.mono ?_;rintro e Z ⟨v,u,rfl,c⟩;clear E;by_cases z:u=0;rotate_left
 ·have i:=ap (h _ _ _ c (ah z));have V:(u==0)=false:=by simpa using z
  clear h n k f c;go_wp2_with fail
  go_ret
  exact⟨_,rfl,i⟩
 subst z;by_cases Q:sl<=4;rotate_left
 ·have i:=ap (h _ _ _ c (ai (by omega)));have S:(4:Int)<(sl:Int):=by omega
  clear h n k f c;go_wp2_with fail
  go_ret
  exact⟨_,rfl,i⟩
 obtain⟨a,rfl,y⟩:=n.out _ _ c Q;have C:=ap y;have S:¬(4:Int)<(sl:Int):=by omega
 clear h n c y;go_wp2_with fail;go_loopw [10,26] (λ_ B wr=>∃(j:Nat),j<=sl/\B=ab j/\Hid (l a j wr)) (λ_ B _=>sl-(intOf B).toNat)
 case atStart=>exact⟨0,aH _,rfl,C⟩
 case round=>
 clear C;obtain⟨j,y,rfl,p⟩:=hrel;by_cases T:j<sl
 ·obtain⟨g,o,⟨rfl,L,M,N,O,P⟩,D⟩:=k.out a j _ T p;have X:(0:Int)<=(j:Int):=by omega
  have Y:(j:Int)<(sl:Int):=by omega
  clear k f p;go_upto_region 7 with fail;generalize A:World.alloc _ _=b;have d:b.heap[wr.heap.size]?=some (.cells #[af (nm j),ab (q j),ab (r j),af (s j),ae (xa j) (t j) (xc j)] 64):=by
   rw[<-A];exact aA _ _
  have K:=ap (D b (by rw[<-A];exact(ao _ _).alloc (am _) _));generalize wr.heap.size=m at*;have d0:b.cell? ⟨m,0,none⟩=some (af (nm j)):=ag d 0;have d1:b.cell? ⟨m,1,none⟩=some (ab (q j)):=ag d 1;have d2:b.cell? ⟨m,2,none⟩=some (ab (r j)):=ag d 2;have d3:b.cell? ⟨m,3,none⟩=some (af (s j)):=ag d 3;have d4:b.cell? ⟨m,4,none⟩=some (ae (xa j) (t j) (xc j)):=ag d 4;clear A d D L M N O P;go_wp2_with fail;refine K.mono ?_;rintro e aa ⟨v,u,rfl,J⟩;go_wp2_with fail;go_roundw
  case rel=>exact⟨j+1,by omega,by go_num,J⟩
  case measure=>simp[intOf];omega
 ·obtain rfl:j=sl:=by omega
  have i:=ap (f _ _ p);clear k f p;go_wp2_with fail
  go_ret
  exact⟨_,rfl,i⟩
theorem mq{P:Sy->Prop}{a:Type}(f:Sy->a->Sy):(l:List a)->(∀s,∀x∈l,P s->P (f s x))->{s:Sy}->P s->P (l.foldl f s)
 | [],_,_,h=>h
 | x::l,hf,s,h=>mq f l (λs y b=>hf s y (bM _ b)) (hf s x (by simp) h)
theorem Oa{s:Sy}{k:Int}{v:ByteArray×Tc×List Tc}(a:s.get k=some v):∃q∈s.ps,q.2=v:=by
 unfold Sy.get at a;obtain⟨q,b,rfl⟩:=co.1 a;exact⟨q,List.mem_of_find?_eq_some b,rfl⟩
def pF(s:Sy):Prop:=∀q∈s.ps,q.2.1.size<=8
theorem pF.get{s:Sy}(b:pF s){k:Int}{nm:ByteArray}{r:Tc×List Tc}(c:s.get k=some (nm,r)):nm.size<=8:=by
 obtain⟨e,d,a⟩:=Oa c;have:=b e d;rw[a]at this;exact this
theorem pF.add{s:Sy}(c:pF s)(a:Int){nm:ByteArray}(d:nm.size<=8)(cs:Tc):pF (s.add a nm cs):=λq e=>by
 rcases dl.1 e with b|b
 ·exact c q b
 ·rw[dN.1 b];exact d
theorem pF.drop{s:Sy}(a:pF s)(x how:Int):pF (s.drop x how):=λq b=>a q (List.mem_of_mem_eraseP b)
theorem pF.fin{s:Sy}(a:pF s)(x how:Int):pF (s.fin x how):=mq (λ(s:Sy)(y:Int)=>s.drop y 4) _ (λ_ y _ k=>k.drop y 4) (a.drop x how:)
theorem pF.put{s:Sy}(a:pF s)(k:Int){v:ByteArray×Tc×List Tc}(d:v.1.size<=8):pF (s.put k v):=λq b=>by
 obtain⟨r,c,rfl⟩:=b9.1 b;split
 ·exact d
 ·exact a r c
theorem pF.deliver{s:Sy}(c:pF s)(room a b:Int)(t:Tc):pF (s.deliver room a b t):=by
 unfold Sy.deliver;split
 ·exact c
 ·split
  ·exact c
  ·split
   ·exact c.fin _ _
   ·split
    ·exact c.put _ (c.get ‹_›)
    ·exact c
theorem xA{k:Nat}{x:Tm k}{room:Int}{nm:ByteArray}(a:fY k x room nm=0):nm.size<=8:=by
 unfold fY at a;split at a
 ·cases a
 ·rename_i b;simp only[dQ,qK,Bool.not_eq_false,aG,cd]at b;omega
theorem pF.follow{s:Sy}(d:pF s)(a:Int)(b:Tk)(e:∀x∈b.spawns,x.2.1.size<=8):pF (s.follow a b):=by
 have c:=mq (P:=pF) (λ(s:Sy)(x:Int)=>s.link a x) b.links (λs x _ k=>by unfold Sy.link;split<;>exact k) (mq (P:=pF) (λ(s:Sy)(x:Int×Tc)=>s.send a x.1 x.2) b.sends (λs x _ k=>by unfold Sy.send;split<;>exact k) (mq (P:=pF) (λ(s:Sy)(x:Int×ByteArray×Tc)=>s.add a x.2.1 x.2.2) b.spawns (λ_ x f k=>k.add a (e x f) x.2.2) d));unfold Sy.follow;simp only;split
 ·exact c.fin a 1
 ·exact c
theorem pF.do{n:Nat}{prog:List (Bh (n+1))}{room:Int}{s:Sy}(c:pF s)(j a b:Int)(k:Nat)(x:Tm k):pF (s.do n prog room j a b k x).1:=by
 unfold Sy.do;split
 ·unfold Sy.run;split
  ·exact c
  ·rename_i g o m h;split
   ·split
    ·exact c
    ·rename_i d _;have e:pF ((s.put a (g,d.state,d.mail)).tell od a 0 d.message):=c.put a (v:=(g,d.state,d.mail)) (c.get h);simp only;split
     ·exact e.fin _ _
     ·split
      ·exact e.fin _ _
      ·rename_i f;simp only[Sy.made,aG,Bool.not_eq_false,ci,cv]at f;exact e.follow a d λx i=>xA (f.2 x i).2
   ·exact c
 ·split
  ·unfold Sy.arrive;split
   ·exact c
   ·rename_i l _;simp only;split
    ·exact pF.deliver (s:={s with ways:=iI s.ways (a,b) l}) c _ _ _ _
    ·exact c
  ·split
   ·unfold Sy.inject;split
    ·exact c
    ·split
     ·exact c
     ·split
      ·exact c
      ·exact c.deliver _ _ _ _
   ·exact c
theorem pF.start{n:Nat}{prog:List (Bh (n+1))}{room:Int}{s:Sy}(a:pF s)(nm:ByteArray)(k:Nat)(x:Tm k):pF (s.start n prog room nm k x).1:=by
 unfold Sy.start;split
 ·exact a
 ·split
  ·exact a
  ·split
   ·exact a
   ·exact a.add 0 (xA (Decidable.not_not.1 ‹_›)) _
theorem sy{n d:Nat}{p:List (Tm n)}{q:List (Tm d)}(c:aB (λa b=>ax n a d b) p q=true)(s:ByteArray)(k:Nat):tZ n p s k=tZ d q s k:=by
 unfold tZ;rw[cI _ _ _ c];cases p with
 | nil=>
  cases q with
  | nil=>rfl
  | cons b q=>simp[aB]at c
 | cons a p=>
  cases q with
  | nil=>simp[aB]at c
  | cons b q=>
   simp only[aB,aG]at c;have e:(gj n a).1=(gj d b).1:=by
    cases n with
    | zero=>exact absurd c.1 (by simp[ax])
    | succ n=>
     cases d with
     | zero=>exact absurd c.1 (by simp[ax])
     | succ d=>exact(bG c.1).1
   simp only[cQ,(ld _ _ _ _ c.1).1,e]
theorem qV{n e:Nat}{p:List (Tm n)}{q:List (Tm e)}(f:aB (λa b=>ax n a e b) p q=true)(i:Nat):(p[i]?=none/\q[i]?=none)\/∃a b,p[i]?=some a/\q[i]?=some b/\ax n a e b=true/\a∈p/\b∈q:=by
 have h:=cI _ _ _ f;by_cases g:i<p.length
 ·have c:=aI g;have d:=aI (show i<q.length by omega);exact ai ⟨_,_,c,d,jA _ _ _ f _ _ _ c d,aJ c,aJ d⟩
 ·exact ah ⟨eI (by omega),eI (by omega)⟩
theorem Au{n i N M:Nat}(f:Tm n->Option (Tm N))(g:Tm i->Option (Tm M)):(p:List (Tm n))->(q:List (Tm i))->aB (λa b=>ax n a i b) p q=true->(∀a∈p,∀b∈q,ax n a i b=true->fF N M (f a) (g b))->fF (N+1) (M+1) ((cJ f p).map (df N)) ((cJ g q).map (df M))/\((cJ f p=none/\cJ g q=none)\/∃l r,cJ f p=some l/\cJ g q=some r/\aB (λa b=>ax N a M b) l r=true)
 | [],[],_,_=>⟨by simp[cJ,fF,ax,df,aB],ai ⟨[],[],rfl,rfl,rfl⟩⟩
 | [],_::_,h,_=>by simp[aB]at h
 | _::_,[],h,_=>by simp[aB]at h
 | a::p,b::q,d,h=>by
  simp only[aB,aG]at d;have c:=h a (by simp) b (by simp) d.1;have o:=(Au f g p q d.2 λx s y t=>h x (by simp[s]) y (by simp[t])).2;simp only[cJ];cases e1:f a with
  | none=>
   rw[e1]at c;cases e:g b with
   | none=>simp[fF]
   | some _=>rw[e]at c;exact c.elim
  | some u=>
   rw[e1]at c;cases e:g b with
   | none=>rw[e]at c;exact c.elim
   | some v=>
    rw[e]at c;have d:ax N u M v=true:=c;rcases o with⟨j,k⟩|⟨l,r,j,k,m⟩
    ·rw[j,k];simp[fF]
    ·rw[j,k];exact⟨by simp[fF,ax,df,aB,d,m],ai ⟨u::l,v::r,rfl,rfl,by simp[aB,d,m]⟩⟩
theorem Af(m:Nat)(b:List (Tm m))(i:Nat)(k:List (Tm i))(self:Int)(w:aB (λx y=>ax m x i y) b k=true)(A:∀y∈b,aD ⟨m,y⟩)(B:∀y∈k,aD ⟨i,y⟩):(n:Nat)->(x:Tm n)->(d:Nat)->(x':Tm d)->aD ⟨n,x⟩->aD ⟨d,x'⟩->ax n x d x'=true->fF (m+n) (i+d) (vl m b self n x) (vl i k self d x')
 | 0,_,_,_,_,_,h=>by simp[ax]at h
 | _+1,_,0,_,_,_,h=>by simp[ax]at h
 | n+1,x,d+1,x',hx,hx',h=>by
  obtain⟨I,j⟩:=bG h;unfold vl;rw[<-I];by_cases s:x.1.1=5
  ·rw[if_pos s,if_pos s];rcases qV w x.1.2.1.toNat with⟨e,f⟩|⟨y,G,e,f,D,p,q⟩
   ·rw[e,f];trivial
   ·rw[e,f];simp only[dB];rw[<-(ld _ _ _ _ D).1];by_cases g:bU ⟨m,y⟩=6
    ·rw[if_pos g,if_pos g];trivial
    ·rw[if_neg g,if_neg g];exact iS (by omega) (by omega) (A y p) (B _ q) D
  ·rw[if_neg s,if_neg s];by_cases g:x.1.1=6
   ·rw[if_pos g,if_pos g];trivial
   ·rw[if_neg g,if_neg g];by_cases r:x.1.1=4
    ·rw[if_pos r,if_pos r,<-sy j,<-sy j,<-sy j];by_cases C:tZ n x.2.2 pW 0=true
     ·rw[if_pos C,if_pos C];simp[fF,ax,bO,aB]
     ·rw[if_neg C,if_neg C];by_cases t:tZ n x.2.2 wk 2=true
      ·rw[if_pos t,if_pos t];rcases qV j 1 with⟨e,f⟩|⟨a,o,e,f,l,p,q⟩
       ·rw[e,f];trivial
       ·rcases qV j 2 with⟨E,F⟩|⟨c,H,E,F,L,N,O⟩
        ·rw[e,f,E,F];trivial
        ·rw[e,f,E,F];simp only[dB];exact nD (Af m b i k self w A B n a d o (aV n x a hx p) (aV d x' o hx' q) l) λu v J=>nD (Af m b i k self w A B n c d H (aV n x c hx N) (aV d x' H hx' O) L) λP Q K=>yf J K
      ·rw[if_neg t,if_neg t];by_cases z:tZ n x.2.2 CA 1=true
       ·rw[if_pos z,if_pos z];rcases qV j 1 with⟨e,f⟩|⟨a,o,e,f,l,p,q⟩
        ·rw[e,f];trivial
        ·rw[e,f];simp only[dB,cF _ _ _ _ l];cases aL d o
         ·simp[fF]
         ·exact iS (by omega) (by omega) (aV n x a hx p) (aV d x' o hx' q) l
       ·rw[if_neg z,if_neg z];exact(Au _ _ x.2.2 x'.2.2 j λy D G M l=>Af m b i k self w A B n y d G (aV n x y hx D) (aV d x' G hx' M) l).1
    ·rw[if_neg r,if_neg r];exact iS (by omega) (by omega) hx hx' h
theorem FF{B:List Tc}(c:∀y∈B,aD ⟨13,y⟩)(self:Int){n a:Nat}{x:Tm n}{x':Tm a}(g:aD ⟨n,x⟩)(h:aD ⟨a,x'⟩)(e:ax n x a x'=true):sO B self n x=sO B self a x':=by
 have f:aB (λx y=>ax 13 x 13 y) B B=true:=iX _ _ λy i=>fC 13 y (c y i);have k:=Af 13 B 13 B self f c c n x a x' g h e;unfold sO;cases e1:vl 13 B self n x with
 | none=>
  rw[e1]at k;cases b:vl 13 B self a x' with
  | none=>rfl
  | some _=>rw[b]at k;exact k.elim
 | some j=>
  rw[e1]at k;cases b:vl 13 B self a x' with
  | none=>rw[b]at k;exact k.elim
  | some l=>
   rw[b]at k;have d:ax (13+n) j (13+a) l=true:=k;simp only[dB];rw[bQ d,ii d]
def Py(k:Nat)(d:Dg):Prop:=(∀y∈d.b,aD ⟨13,y⟩)/\1<=d.next/\d.next+k<=100
theorem tr{n:Nat}(a:Ac (n+1)):(a.1=1/\(cg n a).2.2=[bf mL n,a.2.1.1,a.2.1.2])\/(a.1=2/\(cg n a).2.2=[bf je n,bf a.2.2.1 n,a.2.1.2,bO 5 a.2.2.2 n])\/(a.1=3/\(cg n a).2.2=[bf mK n,a.2.1.1])\/((a.1≠1/\a.1≠2/\a.1≠3)/\(cg n a).2.2=[bf lR n]):=by
 unfold cg;by_cases b:a.1=1
 ·exact ah ⟨b,by rw[if_pos b];rfl⟩
 ·by_cases c:a.1=2
  ·exact ai (ah ⟨c,by rw[if_neg b,if_pos c];rfl⟩)
  ·by_cases d:a.1=3
   ·exact ai (ai (ah ⟨d,by rw[if_neg b,if_neg c,if_pos d];rfl⟩))
   ·exact ai (ai (ai ⟨⟨b,c,d⟩,by rw[if_neg b,if_neg c,if_neg d];rfl⟩))
theorem He{u:Int}(c:1<=u/\u<=99):aD ⟨13,DT u⟩:=by
 intro b a;have a:b∈[(((3,u,.empty),(none,0,0)):Nd)]:=a;obtain rfl:=dN.1 a;simp[cE,qK,c]
theorem Jq{n m:Nat}{a:Ac (n+1)}{b:Ac (m+1)}(c:ax (n+2) (cg n a) (m+2) (cg m b)=true)(v:aD ⟨n+2,cg n a⟩)(w:aD ⟨m+2,cg m b⟩)(self:Int){k:Nat}{d:Dg}(y:Py (k+1) d):rm self a d=rm self b d/\∀h,rm self a d=some h->Py k h:=by
 obtain⟨_,e⟩:=bG c;have E:=λl j=>aV (n+1) (cg n a) l v j;have F:=λl j=>aV (m+1) (cg m b) l w j;have u:=cI _ _ _ e;obtain⟨d1,d2,d3⟩:=y;have i:∀{x:Tm (n+1)}{x':Tm (m+1)},x∈(cg n a).2.2->x'∈(cg m b).2.2->ax (n+1) x (m+1) x'=true->sO d.b self (n+1) x=sO d.b self (m+1) x':=λz A B=>FF d1 self (E _ z) (F _ A) B;rcases tr a with⟨f,o⟩|⟨f,o⟩|⟨f,o⟩|⟨f,o⟩<;>rcases tr b with⟨g,p⟩|⟨g,p⟩|⟨g,p⟩|⟨g,p⟩<;>rw[o,p]at u e i
 case inl.inl=>
  simp only[aB,aG,and_true]at e;have q:=i (x:=a.2.1.1) (x':=b.2.1.1) (by simp) (by simp) e.2.1;have r:=i (x:=a.2.1.2) (x':=b.2.1.2) (by simp) (by simp) e.2.2;unfold rm;rw[if_pos f,if_pos g,r];unfold nA;rw[q];refine⟨rfl,λh c=>?_⟩;obtain⟨G,_,c⟩:=bu.1 c;obtain⟨t,_,rfl⟩:=co.1 c;exact⟨d1,d2,by simp only;omega⟩
 case inr.inl.inr.inl=>
  simp only[aB,aG,and_true]at e;have r:=i (x:=a.2.1.2) (x':=b.2.1.2) (by simp) (by simp) e.2.2.1;have C:a.2.2.1=b.2.2.1:=by
   have:=(bG e.2.1).1;simpa [bf]using this
  have D:a.2.2.2=b.2.2.2:=by
   have:=(bG e.2.2.2).1;simpa [bO]using this
  unfold rm;rw[if_neg (show¬a.1=1 by omega),if_neg (show¬b.1=1 by omega),if_pos f,if_pos g,r,C,D];refine⟨rfl,λh c=>?_⟩;obtain⟨t,_,c⟩:=bu.1 c;split at c
  ·obtain rfl:=aw c;refine⟨λl j=>?_,by simp only;omega,by simp only;omega⟩;rcases sT j with s|s
   ·exact d1 l s
   ·rw[s];exact He (by omega)
  ·cases c
 case inr.inr.inl.inr.inr.inl=>
  simp only[aB,aG,and_true]at e;have q:=i (x:=a.2.1.1) (x':=b.2.1.1) (by simp) (by simp) e.2;unfold rm;rw[if_neg (show¬a.1=1 by omega),if_neg (show¬b.1=1 by omega),if_neg (show¬a.1=2 by omega),if_neg (show¬b.1=2 by omega),if_pos f,if_pos g];unfold nA;rw[q];refine⟨rfl,λh c=>?_⟩;obtain⟨G,_,rfl⟩:=co.1 c;exact⟨d1,d2,by simp only;omega⟩
 case inr.inr.inr.inr.inr.inr=>
  unfold rm;rw[if_neg f.1,if_neg g.1,if_neg f.2.1,if_neg g.2.1,if_neg f.2.2,if_neg g.2.2];refine⟨rfl,λh c=>?_⟩;obtain rfl:=aw c;exact⟨d1,d2,by simp only;omega⟩
 all_goals exact absurd u (by simp)
theorem AV{n m:Nat}(self:Int):(l:List (Ac (n+1)))->(r:List (Ac (m+1)))->aB (λx y=>ax (n+2) x (m+2) y) (l.map (cg n)) (r.map (cg m))=true->(∀a∈l,aD ⟨n+2,cg n a⟩)->(∀b∈r,aD ⟨m+2,cg m b⟩)->∀{d:Dg},Py l.length d->qj self l d=qj self r d/\∀f,qj self l d=some f->∀y∈f.b,aD ⟨13,y⟩
 | [],[],_,_,_,d,hd=>⟨rfl,λf c=>by obtain rfl:=aw c;exact hd.1⟩
 | [],_::_,c,_,_,_,_=>by simp[aB]at c
 | _::_,[],c,_,_,_,_=>by simp[aB]at c
 | a::l,b::r,c,ha,hb,d,hd=>by
  simp only[aN,aB,aG]at c;obtain⟨h,i⟩:=Jq c.1 (ha a (by simp)) (hb b (by simp)) self hd;unfold qj;rw[<-h];cases e:rm self a d with
  | none=>exact⟨rfl,λ_ c=>by cases c⟩
  | some f=>exact AV self l r c.2 (λx g=>ha x (by simp[g])) (λx g=>hb x (by simp[g])) (i f e)
def OM{n m:Nat}(c:Cl (n+1))(a:Cl (m+1)):Prop:=(ax (n+1) c.1.1 (m+1) a.1.1=true/\ax (n+1) c.1.2.1 (m+1) a.1.2.1=true/\ax (n+1) c.1.2.2 (m+1) a.1.2.2=true)/\aB (λx y=>ax (n+2) x (m+2) y) (c.2.2.map (cg n)) (a.2.2.map (cg m))=true
theorem oC{n m:Nat}{x:Tm (n+1)}{y:Tm (m+1)}(b:bz (n+1) x=0)(c:bz (m+1) y=0)(a:ax (n+3) (aT (n+3) (n+1) x) (m+3) (aT (m+3) (m+1) y)=true):ax (n+1) x (m+1) y=true:=
 bH _ _ _ _ _ _ (dw _ _ _ _ (fA (n+3) (n+1) (by omega) x (aM.2 (bB.1 b).1))) (bH _ _ _ _ _ _ a (fA (m+3) (m+1) (by omega) y (aM.2 (bB.1 c).1)))
theorem LU{n m:Nat}{c:Cl (n+1)}{a:Cl (m+1)}(f:ax (n+4) (dE n c) (m+4) (dE m a)=true)(b:pZ c)(d:pZ a):OM c a:=by
 obtain⟨_,e⟩:=bG f;simp only[dE,df,aB,aG,and_true]at e;obtain⟨_,g,h,i,j⟩:=e;exact⟨⟨oC b.1 d.1 g,oC b.2.1 d.2.1 h,oC b.2.2.1 d.2.2.1 j⟩,(bG i).2⟩
theorem LI:nr.length=4/\∀y∈nr,CQ y:=by
 refine⟨rfl,λy a=>?_⟩;simp only[nr,nS,b9]at a;obtain⟨c,b,rfl⟩:=a;rw[List.eq_of_mem_replicate b];exact⟨by kernel_rfl,ah rfl⟩
theorem Gk{n m:Nat}{c:Cl (n+1)}{e:Cl (m+1)}(f:OM c e){s t:Tc}(j:bz 13 s=0/\aL 13 s=true)(k:bz 13 t=0/\aL 13 t=true):lC c s t=lC e s t/\∀b,lC c s t=some b->∀y∈b,aD ⟨13,y⟩:=by
 have r:ax 13 s 13 s=true:=fC _ _ (aM.2 (bB.1 j.1).1);have u:ax 13 t 13 t=true:=fC _ _ (aM.2 (bB.1 k.1).1);have a:=mn _ c.1.1 13 s _ e.1.1 13 s nr nr f.1.1 r uw;unfold lC;cases e1:hU (n+1) c.1.1 13 s nr with
 | none=>
  rw[e1]at a;cases g:hU (m+1) e.1.1 13 s nr with
  | none=>exact⟨rfl,λ_ f=>by cases f⟩
  | some _=>rw[g]at a;exact a.elim
 | some b=>
  rw[e1]at a;cases g:hU (m+1) e.1.1 13 s nr with
  | none=>rw[g]at a;exact a.elim
  | some i=>
   rw[g]at a;have q:=kY CQ ou _ c.1.1 13 s ⟨j.1,ai j.2⟩ _ _ LI e1;have d:=mn _ c.1.2.1 13 t _ e.1.2.1 13 t b i f.1.2.1 u a;simp only[dB];cases e3:hU (n+1) c.1.2.1 13 t b with
   | none=>
    rw[e3]at d;cases h:hU (m+1) e.1.2.1 13 t i with
    | none=>exact⟨rfl,λ_ f=>by cases f⟩
    | some _=>rw[h]at d;exact d.elim
   | some x=>
    rw[e3]at d;cases h:hU (m+1) e.1.2.1 13 t i with
    | none=>rw[h]at d;exact d.elim
    | some z=>
     rw[h]at d;refine⟨by simp only[mZ];rw[Jf d],λw l y o=>?_⟩;obtain rfl:=aw l;obtain⟨v,p,rfl⟩:=b9.1 o;exact aM.2 (bB.1 (nY ((kY CQ ou _ c.1.2.1 13 t ⟨k.1,ai k.2⟩ _ _ q e3).2 v p).1)).1
theorem sh{n m:Nat}(name:ByteArray):(l:List (Bh (n+1)))->(r:List (Bh (m+1)))->aB (λx y=>ax (n+5) x (m+5) y) (l.map (dM n)) (r.map (dM m))=true->(gd (n+1) name l=none/\gd (m+1) name r=none)\/∃b a,gd (n+1) name l=some b/\gd (m+1) name r=some a/\aB (λx y=>ax (n+4) x (m+4) y) (b.2.2.map (dE n)) (a.2.2.map (dE m))=true/\b∈l/\a∈r
 | [],[],_=>ah ⟨rfl,rfl⟩
 | [],_::_,h=>by simp[aB]at h
 | _::_,[],h=>by simp[aB]at h
 | b::l,a::r,h=>by
  simp only[aN,aB,aG]at h;obtain⟨_,f⟩:=bG h.1;simp only[dM,df,aB,aG]at f;have e:b.1=a.1:=by
   have:=(bG f.2.1).1;simpa [bf]using this
  unfold gd;rw[e];by_cases d:a.1=name
  ·rw[if_pos d,if_pos d];exact ai ⟨b,a,rfl,rfl,f.2.2,by simp,by simp⟩
  ·rw[if_neg d,if_neg d];rcases sh name l r h.2 with k|⟨c,g,i,j,o,p,q⟩
   ·exact ah k
   ·exact ai ⟨c,g,i,j,o,by simp[p],by simp[q]⟩
theorem xf{n m:Nat}{s t:Tc}(o:bz 13 s=0/\aL 13 s=true)(p:bz 13 t=0/\aL 13 t=true):(l:List (Cl (n+1)))->(r:List (Cl (m+1)))->aB (λx y=>ax (n+4) x (m+4) y) (l.map (dE n)) (r.map (dE m))=true->(∀c∈l,pZ c)->(∀c∈r,pZ c)->(mi s t l=none/\mi s t r=none)\/∃c a b,mi s t l=some (c,b)/\mi s t r=some (a,b)/\OM c a/\(c∈l/\a∈r)/\∀y∈b,aD ⟨13,y⟩
 | [],[],_,_,_=>ah ⟨rfl,rfl⟩
 | [],_::_,h,_,_=>by simp[aB]at h
 | _::_,[],h,_,_=>by simp[aB]at h
 | c::l,a::r,h,hl,hr=>by
  simp only[aN,aB,aG]at h;have j:=LU h.1 (hl c (by simp)) (hr a (by simp));obtain⟨g,i⟩:=Gk j o p;unfold mi;rw[<-g];cases e:lC c s t with
  | some b=>exact ai ⟨c,a,b,rfl,rfl,j,⟨by simp,by simp⟩,i b e⟩
  | none=>
   rcases xf o p l r h.2 (λx f=>hl x (by simp[f])) (λx f=>hr x (by simp[f]))with k|⟨d,u,b,g,i,v,q,w⟩
   ·exact ah k
   ·exact ai ⟨d,u,b,g,i,v,⟨by simp[q.1],by simp[q.2]⟩,w⟩
theorem uD{n m:Nat}{s:Tc}(k:bz 13 s=0/\aL 13 s=true){l:List (Cl (n+1))}{r:List (Cl (m+1))}(f:aB (λx y=>ax (n+4) x (m+4) y) (l.map (dE n)) (r.map (dE m))=true)(g:∀c∈l,pZ c)(h:∀c∈r,pZ c):(ms:List Tc)->(∀t∈ms,bz 13 t=0/\aL 13 t=true)->(i:Nat)->(sj l s ms i=none/\sj r s ms i=none)\/∃j c a b,sj l s ms i=some (j,c,b)/\sj r s ms i=some (j,a,b)/\OM c a/\(c∈l/\a∈r)/\∀y∈b,aD ⟨13,y⟩
 | [],_,_=>ah ⟨rfl,rfl⟩
 | t::ms,ht,i=>by
  unfold sj;rcases xf k (ht t (by simp)) l r f g h with⟨d,e⟩|⟨c,a,b,d,e,p⟩
  ·rw[d,e];exact uD k f g h ms (λx o=>ht x (by simp[o])) (i+1)
  ·rw[d,e];exact ai ⟨i,c,a,b,rfl,rfl,p⟩
theorem FM{n:Nat}{c:Cl (n+1)}(d:bz (n+3) (df (n+2) (c.2.2.map (cg n)))=0):∀a∈c.2.2,aD ⟨n+2,cg n a⟩:=λa b=>aM.2 (bB.1 (fL d (by simp only[df];exact kL b))).1
theorem Gr{n m:Nat}{c:Cl (n+1)}{f:Cl (m+1)}(h:OM c f)(g:pZ c/\∀a∈c.2.2,aD ⟨n+2,cg n a⟩)(i:pZ f/\∀a∈f.2.2,aD ⟨m+2,cg m a⟩)(room self next:Int)(k:1<=next/\next<=92)(s t:Tc)(ms:List Tc){b:List Tc}(j:∀y∈b,aD ⟨13,y⟩):fp room self next s t ms c b=fp room self next s t ms f b:=by
 have p:=g.1.2.2.2.1;obtain⟨l,o⟩:=AV self c.2.2 f.2.2 h.2 g.2 i.2 (d:=⟨b,next,[],[],[],false⟩) ⟨j,k.1,by simp only;omega⟩;unfold fp;rw[<-l];cases e:qj self c.2.2 ⟨b,next,[],[],[],false⟩with
 | none=>rfl
 | some d=>
  have:=FF (o d e) self (aM.2 (bB.1 g.1.2.2.1).1) (aM.2 (bB.1 i.1.2.2.1).1) h.1.2.2;simp only[this]
theorem xL{n:Nat}{p:List (Bh (n+1))}(d:lP n p=0):∀b∈p,∀c∈b.2.2,pZ c/\∀a∈c.2.2,aD ⟨n+2,cg n a⟩:=λb e c f=>by
 have g:=(fq d).2.1;have h:bz (n+5) (dM n b)=0:=fL g (by simp only[bW,df];exact bM _ (kL e));have i:bz (n+4) (dE n c)=0:=fL h (by simp only[dM,df];exact bM _ (bM _ (kL f)));exact⟨((Fs d).2 b e).2 c f,FM (uB i 3 rfl)⟩
theorem vZ{n m:Nat}{P:List (Bh (n+1))}{Q:List (Bh (m+1))}(b:ax (n+6) (bW n P) (m+6) (bW m Q)=true):aB (λx y=>ax (n+5) x (m+5) y) (P.map (dM n)) (Q.map (dM m))=true:=by
 obtain⟨_,a⟩:=bG b;simp only[bW,df,aB,aG]at a;exact a.2
theorem vd{n m:Nat}{P:List (Bh (n+1))}{Q:List (Bh (m+1))}(d:ax (n+6) (bW n P) (m+6) (bW m Q)=true)(nm:ByteArray):lj n P nm=lj m Q nm:=by
 unfold lj;rcases sh nm P Q (vZ d)with⟨a,c⟩|⟨b,e,a,c,_⟩<;>rw[a,c]<;>rfl
theorem Hx{n m:Nat}{P:List (Bh (n+1))}{Q:List (Bh (m+1))}(y:ax (n+6) (bW n P) (m+6) (bW m Q)=true)(z:lP n P=0)(A:lP m Q=0)(room:Int)(nm:ByteArray)(self next:Int)(B:1<=next/\next<=92){s:Tc}(w:bz 13 s=0/\aL 13 s=true){ms:List Tc}(v:∀t∈ms,bz 13 t=0/\aL 13 t=true):nE room P nm self next s ms=nE room Q nm self next s ms:=by
 have p:=xL z;have q:=xL A;have key:(sj (gi nm P) s ms 0=none/\sj (gi nm Q) s ms 0=none)\/∃f c a b,sj (gi nm P) s ms 0=some (f,c,b)/\sj (gi nm Q) s ms 0=some (f,a,b)/\OM c a/\((pZ c/\∀i∈c.2.2,aD ⟨n+2,cg n i⟩)/\pZ a/\∀i∈a.2.2,aD ⟨m+2,cg m i⟩)/\∀H∈b,aD ⟨13,H⟩:=by
  unfold gi;rcases sh nm P Q (vZ y)with⟨d,e⟩|⟨b,u,d,e,o,g,h⟩
  ·rw[d,e];rcases uD w (l:=([]:List (Cl (n+1)))) (r:=([]:List (Cl (m+1)))) rfl (by simp) (by simp) ms v 0 with k|⟨_,_,_,_,_,_,_,k,_⟩
   ·exact ah k
   ·cases k.1
  ·rw[d,e];rcases uD w o (λc j=>(p b g c j).1) (λc j=>(q u h c j).1) ms v 0 with k|⟨f,c,a,G,C,D,E,x,F⟩
   ·exact ah k
   ·exact ai ⟨f,c,a,G,C,D,E,⟨p b g c x.1,q u h a x.2⟩,F⟩
 unfold nE;rcases key with⟨d,e⟩|⟨f,c,a,b,d,e,o,g,h⟩
 ·rw[d,e];rfl
 ·rw[d,e];simp only[dB];congr 1;funext t;exact Gr o g.1 g.2 room self next B s t _ h
theorem EW{n m:Nat}{P:List (Bh (n+1))}{Q:List (Bh (m+1))}(d:ax (n+6) (bW n P) (m+6) (bW m Q)=true)(f:lP n P=0)(g:lP m Q=0){s:Sy}(q:∀a nm cs c,s.get a=some (nm,cs,c)->(bz 13 cs=0/\aL 13 cs=true)/\∀t∈c,bz 13 t=0/\aL 13 t=true)(v:0<=s.last/\s.last<=90)(room i a b:Int)(k:Nat)(x:Tm k):s.do n P room i a b k x=s.do m Q room i a b k x:=by
 have p:lj n P=lj m Q:=funext λnm=>vd d nm;have r:s.run n P room a=s.run m Q room a:=by
  unfold Sy.run;cases e:s.get a with
  | none=>rfl
  | some u=>
   obtain⟨nm,cs,c⟩:=u;obtain⟨j,l⟩:=q a nm cs c e;have h:=Hx d f g room nm a (s.last+1) ⟨by omega,by omega⟩ j l;have o:rQ n room P nm a (s.last+1) cs c=rQ m room Q nm a (s.last+1) cs c:=by
    unfold rQ;rw[h,f,g]
   simp only[o,h,Sy.made,p];split
   ·cases nE room Q nm a (s.last+1) cs c<;>rfl
   ·rfl
 unfold Sy.do;rw[r]
theorem vT{n m:Nat}{P:List (Bh (n+1))}{Q:List (Bh (m+1))}(a:ax (n+6) (bW n P) (m+6) (bW m Q)=true)(s:Sy)(room:Int)(nm:ByteArray)(k:Nat)(x:Tm k):s.start n P room nm k x=s.start m Q room nm k x:=by
 unfold Sy.start;rw[vd a]
theorem JO{n:Nat}{P:List (Bh (n+1))}{k d:Nat}{x:Tm k}{y:Tm d}(c:ax k x d y=true)(s:Sy)(room a b:Int):s.do n P room 3 a b k x=s.do n P room 3 a b d y:=by
 unfold Sy.do Sy.inject;rw[bQ c,cF _ _ _ _ c,ii c]
def qJ:ByteArray:=⟨#[99,111,117,110,116]⟩
def PY:ByteArray:=⟨#[117,112]⟩
def PX:ByteArray:=⟨#[97,115,107]⟩
def Pn:ByteArray:=⟨#[104,97,118,101]⟩
def tz:ByteArray:=⟨#[102,111,114,107]⟩
def Cz:ByteArray:=⟨#[98,97,100]⟩
def wA:ByteArray:=⟨#[97]⟩
def OO:Option Addr×Nat:=(none,0)
def Jj(N:Nat):Tm (N+1):=bO 6 0 N
def L0(u:Int)(N:Nat):Tm (N+1):=bO 1 u N
def Jm(u:Int)(N:Nat):Tm (N+1):=bO 5 u N
def fM:List (Bh 2):=[(qJ,OO,[
 ((Jm 0 1,df 1 [bf PY 0,Jm 1 0],df 1 [bf wk 0,Jm 0 0,Jm 1 0]),OO,[]),
 ((Jm 0 1,df 1 [bf PX 0,Jm 1 0],Jm 0 1),OO,[(1,(Jm 1 1,df 1 [bf Pn 0,Jm 0 0]),.empty,0)]),
 ((Jj 1,bf tz 1,L0 1 1),OO,[(2,(zT 1,L0 0 1),qJ,0),(3,(Jm 0 1,zT 1),.empty,0),(1,(Jm 0 1,df 1 [bf PY 0,L0 7 0]),.empty,0)]),
 ((Jj 1,bf lR 1,L0 0 1),OO,[(4,(zT 1,zT 1),.empty,0)]),
 ((Jj 1,bf Cz 1,df 1 [bf wk 0,bf wA 0,bf wA 0]),OO,[])])]
def vu:Tc:=df 12 [bf PY 11,L0 3 11]
def F8:Sy:=(MW.start 1 fM 60 qJ 1 (L0 2 0)).1
theorem Jp:lP 1 fM=0:=by kernel_rfl
theorem F9:(MW.start 1 fM 60 qJ 1 (L0 2 0)).2=0/\F8.last=1:=⟨by kernel_rfl,by kernel_rfl⟩
def Lu:List (Int×Int×Int×Tc):=[(3,1,0,vu),(1,1,0,tA),(3,1,0,bf tz 12),(1,1,0,tA),(2,1,2,tA),(1,2,0,tA)]
def O7:List (Int×Int×Int×Tc):=[(3,1,0,bf Cz 12),(1,1,0,tA)]
def Jk(s:Sy)(e:Int×Int×Int×Tc):Sy×Int:=s.do 1 fM 60 e.1 e.2.1 e.2.2.1 13 e.2.2.2
def yW(s:Sy)(l:List (Int×Int×Int×Tc)):Sy:=l.foldl (λs e=>(Jk s e).1) s
def C5:Sy->List (Int×Int×Int×Tc)->Bool
 | _,[]=>true
 | s,e::l=>(Jk s e).2==0 && C5 (Jk s e).1 l
theorem Jn:C5 F8 Lu=true:=by kernel_rfl
theorem L6:C5 (yW F8 Lu) O7=true:=by kernel_rfl
theorem N5:(yW F8 Lu).ps.map (·.1)=[1,2]:=by kernel_rfl
theorem Jo:((yW F8 Lu).get 2).map (λv=>(v.1,v.2.1.1))=some (qJ,1,7,.empty):=by kernel_rfl
theorem L5:(yW (yW F8 Lu) O7).ps=[]:=by kernel_rfl
def uI(c:UInt8):Bool:=decide (48<=(c.toNat:Int)) && decide ((c.toNat:Int)<=57)
def iK(l:List UInt8):Bool:=l.all uI
def lD(l:List UInt8):Int:=l.foldl (λn c=>10*n+((c.toNat:Int)-48)) 0
def eU(s:ByteArray)(m:Int):Bool:=decide (1<=(s.size:Int)) && decide ((s.size:Int)<=m) && !(s.data.toList[0]?==some 48 && decide (1<(s.size:Int))) && iK s.data.toList
theorem uJ(s:ByteArray)(k:Nat)(a:k<s.size):iK (s.data.toList.take (k+1))=(iK (s.data.toList.take k) && uI s[k]):=by
 rw[sM s k a];simp[iK]
theorem GV(s:ByteArray)(k:Nat)(a:k<s.size):lD (s.data.toList.take (k+1))=10*lD (s.data.toList.take k)+((s[k].toNat:Int)-48):=by
 rw[sM s k a];simp[lD]
theorem DE(l:List UInt8):iK l=true->0<=lD l/\lD l<10 ^ l.length:=by
 suffices g:∀(l:List UInt8)(a:Int)(b:Nat),iK l=true->0<=a->a<10 ^ b->0<=l.foldl (λn c=>10*n+((c.toNat:Int)-48)) a/\l.foldl (λn c=>10*n+((c.toNat:Int)-48)) a<10 ^ (b+l.length) by
  intro d;have:=g l 0 0 d (by omega) (by simp);simpa [lD]using this
 intro l
 induction l with
 | nil=>intro a b _ e f;exact⟨e,f⟩
 | cons c l ih=>
  intro a b d e f;simp only[iK,ji,aG,uI,cd]at d;have:=ih (10*a+((c.toNat:Int)-48)) (b+1) (by simp only[iK];exact d.2) (by omega) (by rw[Int.pow_succ];omega);simp only[gw,bi];rw[show b+(l.length+1)=b+1+l.length by omega];exact this
theorem DF(s:ByteArray)(k:Nat)(d:k<=14)(c:iK (s.data.toList.take k)=true):0<=lD (s.data.toList.take k)/\lD (s.data.toList.take k)<100000000000000:=by
 have a:=DE _ c;refine⟨a.1,Int.lt_of_lt_of_le a.2 ?_⟩;have:(10:Int) ^ (s.data.toList.take k).length<=10 ^ 14:=by
  have b:(10:Nat) ^ (s.data.toList.take k).length<=10 ^ 14:=Nat.pow_le_pow_right (by omega) (by simp;omega)
  exact_mod_cast b
 simpa using this
theorem xh(s:ByteArray)(k:Nat)(a:k<s.size)(c:uI s[k]=false):iK s.data.toList=false:=by
 have b:iK s.data.toList=(iK (s.data.toList.take (k+1)) && iK (s.data.toList.drop (k+1))):=by
  conv=>lhs;rw[<-gU (k+1) s.data.toList]
  simp only[iK,kH]
 rw[b,uJ s k a,c];simp
theorem rq(s:ByteArray)(a:0<s.size):s.data.toList[0]?=some s[0]:=by
 rw[aI (by simpa using a)];rfl
theorem Oh(s:ByteArray)(e:0<s.size)(f:s[0]=48):(s.toList==[48])=decide (¬1<s.size):=by
 rw[cu];have b:=rq s e;rw[f]at b;have a:s.data.toList.length=s.size:=by simp
 cases d:s.data.toList with
 | nil=>rw[d]at a;simp at a;omega
 | cons c l=>
  rw[d]at b a;simp at b;subst b;cases l with
  | nil=>simp at a;simp;omega
  | cons g l=>simp at a;simp;omega
theorem Cc{s:ByteArray}(b:0<s.size):s.toList.isEmpty=false:=by
 rw[cu,List.isEmpty_eq_false_iff];intro a;have:s.data.toList.length=s.size:=by simp
 rw[a]at this;simp at this;omega
theorem Cb{s:ByteArray}(a:¬0<s.size):s.toList.isEmpty=true:=by
 rw[cu,List.isEmpty_iff];apply bE;have:s.data.toList.length=s.size:=by simp
 omega
theorem j8{c:UInt8}{k:Nat}{d:UInt8}(b:d.toNat=k)(a:¬c=d):¬((c.toNat:Int)=k):=λe=>a (UInt8.toNat.inj (by omega))
def NQ(s:ByteArray)(m:Int)(e:Ending):Prop:=
 ∃(a:Int)(b:Bool),e=.returned (.tuple #[ab a,.bool b])/\Hid (b=eU s m/\0<=a/\a<100000000000000/\(b=true->a=lD s.data.toList))
theorem oq(s:ByteArray)(m:Int)(w:World)(E:s.size<=9223372036854775807)(D:m<=13):ak 146 #[af s,ab m] w λe w'=>NQ s m e/\w'=w:=by
 go_enter func146,ntmps146;by_cases g:0<s.size
 ·have n:=Cc g;have A:(s.toList=[])=False:=by simpa using n
  by_cases l:(s.size:Int)<=m
  ·have z:decide (m<(s.size:Int))=false:=by simp;omega
   have i:s[0]=48->(s.toList==[48])=decide (¬1<s.size):=Oh s g;by_cases c:s[0]=48/\1<s.size
   ·obtain⟨c,a⟩:=c;have j:(s.toList==[48])=false:=by rw[i c];simp;omega
    have b:Hid (eU s m=false):=by simp[Hid,eU,rq s g,c];omega
    clear i;go_wp2_with fail
    all_goals go_ret2
    all_goals exact⟨⟨0,false,rfl,b.symm,by omega,by omega,by simp⟩,rfl⟩
   ·have b:Hid (eU s m=iK s.data.toList):=by
      simp only[Hid,eU];rw[rq s g];by_cases a:s[0]=48
      ·have:¬1<s.size:=λf=>c ⟨a,f⟩;simp[l];omega
      ·simp[l,a];omega
    have j:(s[0]=48/\(s.toList==[48])=true)\/¬((s[0].toNat:Int)=48):=by
     by_cases a:s[0]=48
     ·have B:¬1<s.size:=λf=>c ⟨a,f⟩;exact ah ⟨a,by rw[i a];simp;omega⟩
     ·exact ai (j8 (k:=48) rfl a)
    clear i c;rcases j with⟨a,j⟩|j
    all_goals
     go_wp2_with fail
     go_loop [6,7] (λt p=>∃k:Nat,∃h:Int,k<=s.size/\p=ab k/\t=ab h/\Hid (h=lD (s.data.toList.take k)/\iK (s.data.toList.take k)=true)) (λ_ p=>s.size-(intOf p).toNat)
     case atStart=>exact⟨0,0,aH _,rfl,rfl,by simp[Hid,iK,lD]⟩
     case round=>
      obtain⟨k,h,C,rfl,rfl,d⟩:=hrel;have r:=DF s k (by omega) d.2;rw[<-d.out.1]at r;obtain⟨F,G⟩:=r;by_cases o:k<s.size
      ·have x:=ap (uJ s k o);have y:=ap (GV s k o);have q:Hid (uI s[k]=false->false=eU s m):=λf=>by rw[b.out,xh s k o f]
       by_cases d1:48<=(s[k].toNat:Int)
       ·by_cases d2:(s[k].toNat:Int)<=57
        ·go_wp2_with fail
         go_round
         case rel=>exact⟨k+1,10*h+((s[k].toNat:Int)-48),by omega,by go_num,by go_num,by rw[y.out,d.out.1],by rw[x.out,d.out.2];simp[uI,d1,d2]⟩
         case measure=>simp[intOf];omega
        ·go_wp2_with fail
         go_ret2
         exact⟨⟨0,false,rfl,q (by simp[uI,d2]),by omega,by omega,by simp⟩,rfl⟩
       ·go_wp2_with fail
        go_ret2
        exact⟨⟨0,false,rfl,q (by simp[uI];omega),by omega,by omega,by simp⟩,rfl⟩
      ·go_wp2_with fail
       go_ret2
       have u:s.data.toList.take k=s.data.toList:=bA (by simp;omega);refine⟨⟨h,true,rfl,?_,by omega,by omega,λ_=>?_⟩,rfl⟩
       ·rw[b.out,<-u,d.out.2]
       ·rw[d.out.1,u]
  ·have z:m<(s.size:Int):=by omega
   have b:Hid (eU s m=false):=by simp[Hid,eU,l]
   go_wp2_with fail
   all_goals go_ret2
   all_goals exact⟨⟨0,false,rfl,b.symm,by omega,by omega,by simp⟩,rfl⟩
 ·have n:=Cb g;have A:(s.toList=[])=True:=by simpa using n
  have v:s.size=0:=by omega
  have b:Hid (eU s m=false):=by simp[Hid,eU,v]
  clear v;go_wp2_with fail
  all_goals go_ret2
  all_goals exact⟨⟨0,false,rfl,b.symm,by omega,by omega,by simp⟩,rfl⟩
def io(s:ByteArray):ByteArray:=s.extract 1 s.size
def fE(s:ByteArray):Bool:=
 if s.data.toList[0]?=some 35 then eU (io s) 2
 else if s.data.toList[0]?=some 36 then eU (io s) 2
 else if s.data.toList[0]?=some 45 then eU (io s) 13 && !(lD (io s).data.toList==0)
 else if s.toList==[95]then true
 else if eU s 13 then true
 else decide (0<s.size) && fZ s.data.toList
def lk(s:ByteArray):Int×Int×ByteArray:=
 if s.data.toList[0]?=some 35 then (3,lD (io s).data.toList,⟨#[]⟩)
 else if s.data.toList[0]?=some 36 then (5,lD (io s).data.toList,⟨#[]⟩)
 else if s.data.toList[0]?=some 45 then (1,-lD (io s).data.toList,⟨#[]⟩)
 else if s.toList==[95]then (6,0,⟨#[]⟩)
 else if eU s 13 then (1,lD s.data.toList,⟨#[]⟩)
 else (2,0,s)
def Ly(s:ByteArray)(e:Ending):Prop:=
 ∃(k a:Int)(t:ByteArray)(b:Bool),e=.returned (.tuple #[.agg #[ab k,ab a,af t,ae none 0 0],.bool b])/\Hid (b=fE s/\(b=true->(k,a,t)=lk s)/\t.size<=s.size/\dx k/\dx a)
theorem Eo(s:ByteArray):(io s).size<=s.size:=by simp[io]
def NO(k:Int)(s:ByteArray)(e:Ending):Prop:=
 ∃(a:Int)(b:Bool),e=.returned (.tuple #[.agg #[ab k,ab a,af ⟨#[]⟩,ae none 0 0],.bool b])/\Hid (b=eU s 2/\0<=a/\a<100000000000000/\(b=true->a=lD s.data.toList))
theorem rE(k:Int)(s:ByteArray)(w:World)(c:s.size<=9223372036854775807):ak 145 #[ab k,af s] w λe w'=>NO k s e/\aj w w':=by
 go_enter func145,ntmps145;go_wp2_with (go_at_call 146;refine(oq _ _ _ c (by omega)).mono ?_;rintro e w' ⟨⟨v,b,rfl,a⟩,rfl⟩);exact av (v:=.tuple #[.agg #[ab k,ab v,af ⟨#[]⟩,ae none 0 0],.bool b]) (by simp[results,results145,go_sem]) rfl ⟨⟨v,b,rfl,a⟩,by go_grown⟩
theorem F6(s:ByteArray)(w:World)(b:s.size<=2048):ak 63 #[af s] w λe w'=>e=.returned (af s)/\aj w w':=by
 go_enter func63,ntmps63;go_wp2_with (go_at_call 98;refine(Tryz.stringslite_Clone s w (by omega)).mono ?_;rintro e w' ⟨rfl,a⟩)
 go_ret
 exact⟨rfl,a⟩
theorem Ge(s:ByteArray)(a:0<s.size)(b:uI s[0]=false)(m:Int):eU s m=false:=by simp[eU,xh s 0 a b]
theorem GL(s:ByteArray)(a:0<s.size)(c:zn s[0]=false):fZ s.data.toList=false:=by
 have b:fZ s.data.toList=(fZ (s.data.toList.take 1) && fZ (s.data.toList.drop 1)):=by
  conv=>lhs;rw[<-gU 1 s.data.toList]
  simp only[fZ,kH]
 rw[b,vm s 0 a,c];simp
theorem NX(s:ByteArray)(d:0<s.size)(b:¬s[0]=95):(s.toList==[95])=false:=by
 rw[cu];have a:=rq s d;cases hl:s.data.toList with
 | nil=>rfl
 | cons c l=>
  rw[hl]at a;simp at a;rw[<-a]at b;simp[b]
def pG(k u:Int)(t:ByteArray):Value:=.agg #[ab k,ab u,af t,ae none 0 0]
theorem dv{u:Int}(a: -100000000000000<=u)(b:u<=100000000000000):dx u:=⟨by omega,by omega⟩
theorem yI{w w':World}{v0 v1 v2 v3:Value}{t:TypeId}(c:Below (w.alloc (.cells #[v0,v1,v2,v3] t)).heap.size (w.alloc (.cells #[v0,v1,v2,v3] t)) w'):(w'.cell? ⟨w.heap.size,0,none⟩=some v0/\w'.cell? ⟨w.heap.size,1,none⟩=some v1/\w'.cell? ⟨w.heap.size,2,none⟩=some v2/\w'.cell? ⟨w.heap.size,3,none⟩=some v3)/\ (w'.frozen? ⟨w.heap.size,0,none⟩=false/\w'.frozen? ⟨w.heap.size,1,none⟩=false/\w'.frozen? ⟨w.heap.size,2,none⟩=false/\w'.frozen? ⟨w.heap.size,3,none⟩=false):=by
 have a:=λo=>c.cell (p:=⟨w.heap.size,o,none⟩) (by simp);have b:=λo=>c.frozen (p:=⟨w.heap.size,o,none⟩) (by simp);exact⟨⟨(a 0).trans (by simp[go_sem]),(a 1).trans (by simp[go_sem]),(a 2).trans (by simp[go_sem]),(a 3).trans (by simp[go_sem])⟩,(b 0).trans (by simp[go_sem]),(b 1).trans (by simp[go_sem]),(b 2).trans (by simp[go_sem]),(b 3).trans (by simp[go_sem])⟩
theorem Dj{w w':World}{o:Obj}(e:Below (w.alloc o).heap.size (w.alloc o) w')(a b c d:Value):aj w ((((w'.setCell ⟨w.heap.size,0,none⟩ a).setCell ⟨w.heap.size,1,none⟩ b).setCell ⟨w.heap.size,2,none⟩ c).setCell ⟨w.heap.size,3,none⟩ d):=by
 have f:aj w w':=((ao _ _).alloc (am _) _).trans (e.mono (by simp))
 go_grown
theorem Hg(s:ByteArray)(w:World)(y:s.size<=2048):ak 109 #[af s] w λe w'=>Ly s e/\aj w w':=by
 have D:=Eo s;by_cases g:0<s.size
 ·have p:=Cc g;have u:(s.toList=[])=False:=by simpa using p
  have i:=ap (rq s g);have C:(1:Int)<=s.size:=by omega
  by_cases j:s[0]=95
  ·have c:Hid (fE s=(s.toList==[95])/\((s.toList==[95])=true->lk s=(6,0,⟨#[]⟩))):=by
     simp only[Hid,fE,lk,i.out,j,Ge s g (by simp[uI,j]) 13,GL s g (by simp[zn,j])];cases h:(s.toList==[95])<;>simp
   go_enter func109,ntmps109;go_wp2_with fail;exact av (v:=.tuple #[pG 6 0 ⟨#[]⟩,.bool (s.toList==[95])]) (by simp[results,results109,go_sem,pG]) rfl ⟨⟨6,0,⟨#[]⟩,_,rfl,c.1.symm,λh=>(c.2 h).symm,aH _,dv (by omega) (by omega),dv (by omega) (by omega)⟩,by go_grown⟩
  ·have d1:=j8 (k:=95) (d:=95) rfl j;by_cases q:s[0]=35
   ·have c:Hid (fE s=eU (io s) 2/\lk s=(3,lD (io s).data.toList,⟨#[]⟩)):=by
      simp[Hid,fE,lk,i.out,q]
    go_enter func109,ntmps109;go_wp2_with (go_at_call 145;refine(rE 3 (io s) _ (by omega)).mono ?_;rintro e w' ⟨⟨v,b,rfl,a⟩,f⟩;obtain⟨⟨l,m,n,o⟩,f0,f1,f2,f3⟩:=yI f;have HB:=ap (Dj f);clear f);exact av (v:=.tuple #[pG 3 v ⟨#[]⟩,.bool b]) (by simp[results,results109,go_sem,pG,l,m,n,o]) rfl ⟨⟨3,v,⟨#[]⟩,_,rfl,by rw[c.out.1,a.out.1],λh=>by rw[c.out.2,a.out.2.2.2 h],aH _,dv (by omega) (by omega),dv (by have:=a.2.1;omega) (by have:=a.2.2.1;omega)⟩,HB _ _ _ _⟩
   ·have d2:=j8 (k:=35) (d:=35) rfl q;by_cases r:s[0]=36
    ·have c:Hid (fE s=eU (io s) 2/\lk s=(5,lD (io s).data.toList,⟨#[]⟩)):=by
       simp[Hid,fE,lk,i.out,r]
     go_enter func109,ntmps109;go_wp2_with (go_at_call 145;refine(rE 5 (io s) _ (by omega)).mono ?_;rintro e w' ⟨⟨v,b,rfl,a⟩,f⟩;obtain⟨⟨l,m,n,o⟩,f0,f1,f2,f3⟩:=yI f;have HB:=ap (Dj f);clear f);exact av (v:=.tuple #[pG 5 v ⟨#[]⟩,.bool b]) (by simp[results,results109,go_sem,pG,l,m,n,o]) rfl ⟨⟨5,v,⟨#[]⟩,_,rfl,by rw[c.out.1,a.out.1],λh=>by rw[c.out.2,a.out.2.2.2 h],aH _,dv (by omega) (by omega),dv (by have:=a.2.1;omega) (by have:=a.2.2.1;omega)⟩,HB _ _ _ _⟩
    ·have d3:=j8 (k:=36) (d:=36) rfl r;by_cases t:s[0]=45
     ·have c:Hid (fE s=(eU (io s) 13 && !(lD (io s).data.toList==0))/\lk s=(1,-lD (io s).data.toList,⟨#[]⟩)):=by
        simp[Hid,fE,lk,i.out,t]
      go_enter func109,ntmps109;go_wp2_with (go_at_call 146;refine(oq (io s) 13 _ (by omega) (by omega)).mono ?_;rintro e w' ⟨⟨v,b,rfl,a⟩,rfl⟩;obtain⟨A,B⟩:=(⟨a.2.1,a.2.2.1⟩:0<=v/\v<100000000000000);cases b)
      ·exact av (v:=.tuple #[pG 1 (-v) ⟨#[]⟩,.bool false]) (by simp[results,results109,go_sem,pG]) rfl ⟨⟨1,-v,⟨#[]⟩,_,rfl,by rw[c.out.1,<-a.out.1];rfl,by simp,aH _,dv (by omega) (by omega),dv (by omega) (by omega)⟩,by go_grown⟩
      ·exact av (v:=.tuple #[pG 1 (-v) ⟨#[]⟩,.bool (v !=0)]) (by simp[results,results109,go_sem,pG]) rfl ⟨⟨1,-v,⟨#[]⟩,_,rfl,by rw[c.out.1,<-a.out.1,<-a.out.2.2.2 (by trivial)];simp[bne],λ_=>by rw[c.out.2,a.out.2.2.2 (by trivial)],aH _,dv (by omega) (by omega),dv (by omega) (by omega)⟩,by go_grown⟩
     ·have d4:=j8 (k:=45) (d:=45) rfl t;have c:Hid (fE s=(eU s 13 || fZ s.data.toList)/\(lk s=if eU s 13=true then (1,lD s.data.toList,⟨#[]⟩)else (2,0,s))):=by
       simp only[Hid,fE,lk,i.out,NX s g j];simp[q,r,t];cases eU s 13<;>simp[g]
      go_enter func109,ntmps109
      go_wp2_with (first
       | (go_at_call 146;refine(oq s 13 _ (by omega) (by omega)).mono ?_;rintro e w' ⟨⟨v,b,rfl,a⟩,rfl⟩;obtain⟨A,B⟩:=(⟨a.2.1,a.2.2.1⟩:0<=v/\v<100000000000000);cases b)
       | (go_at_call 63;refine(F6 s _ y).mono ?_;rintro e E ⟨rfl,f⟩;obtain⟨⟨l,m,n,o⟩,f0,f1,f2,f3⟩:=yI f;have HB:=ap (Dj f);clear f)
       | (go_at_call 110;refine(tb s _ (by omega)).mono ?_;rintro e F ⟨rfl,rfl⟩))
      ·exact av (v:=.tuple #[pG 2 0 s,.bool (fZ s.data.toList)]) (by simp[results,results109,go_sem,pG,l,m,n,o]) rfl ⟨⟨2,0,s,_,rfl,by rw[c.out.1,<-a.out.1];rfl,λ_=>by rw[c.out.2,<-a.out.1];rfl,am _,dv (by omega) (by omega),dv (by omega) (by omega)⟩,HB _ _ _ _⟩
      ·exact av (v:=.tuple #[pG 1 v ⟨#[]⟩,.bool true]) (by simp[results,results109,go_sem,pG]) rfl ⟨⟨1,v,⟨#[]⟩,_,rfl,by rw[c.out.1,<-a.out.1];rfl,λ_=>by rw[c.out.2,<-a.out.1,a.out.2.2.2 (by trivial)];rfl,aH _,dv (by omega) (by omega),dv (by omega) (by omega)⟩,by go_grown⟩
 ·have p:=Cb g;have u:(s.toList=[])=True:=by simpa using p
  have c:Hid (fE s=false):=by
   have z:s.size=0:=by omega
   have x:s.data.toList=[]:=by rw[<-cu];simpa using p
   simp[Hid,fE,cu,eU,x,z]
  go_enter func109,ntmps109;go_wp2_with fail;exact av (v:=.tuple #[pG 0 0 ⟨#[]⟩,.bool false]) (by simp[results,results109,go_sem,pG]) rfl ⟨⟨0,0,⟨#[]⟩,_,rfl,c.symm,by simp,aH _,dv (by omega) (by omega),dv (by omega) (by omega)⟩,by go_grown⟩
def N0(c:UInt8):Bool:=c==32
def zb(c:UInt8):Bool:=c==32 || c==40 || c==41
def fQ(p:UInt8->Bool)(s:ByteArray)(i:Nat):Nat:=i+((s.data.toList.drop i).takeWhile p).length
theorem EX(s:ByteArray)(k:Nat)(a:k<s.size):s.data.toList.drop k=s[k]::s.data.toList.drop (k+1):=by
 rw[eH (by simpa using a)];rfl
theorem xY{p:UInt8->Bool}{s:ByteArray}{k:Nat}(a:k<s.size)(b:p s[k]=true):fQ p s (k+1)=fQ p s k:=by
 unfold fQ;rw[EX s k a,List.takeWhile_cons,if_pos b,bi];omega
theorem xZ{p:UInt8->Bool}{s:ByteArray}{k:Nat}(a:k<s.size)(b:p s[k]=false):fQ p s k=k:=by
 unfold fQ;rw[EX s k a,List.takeWhile_cons,if_neg (by simp[b])];rfl
theorem Cd{p:UInt8->Bool}{s:ByteArray}{k:Nat}(a:¬k<s.size):fQ p s k=k:=by
 unfold fQ;rw[pq (by simp;omega)];rfl
theorem zS(p:UInt8->Bool)(s:ByteArray)(k:Nat):k<=fQ p s k:=gW _ _
theorem Fy(p:UInt8->Bool)(s:ByteArray)(k:Nat)(a:k<=s.size):fQ p s k<=s.size:=by
 unfold fQ;have b:=(List.takeWhile_sublist (l:=s.data.toList.drop k) p).length_le;have c:(s.data.toList.drop k).length=s.size-k:=by simp
 omega
def dF(s:ByteArray)(i:Nat):Nat:=fQ N0 s i
def eD(s:ByteArray)(i:Nat):Nat:=if fQ (λc=> !zb c) s (dF s i)=dF s i/\dF s i<s.size then dF s i+1 else fQ (λc=> !zb c) s (dF s i)
theorem mN(s:ByteArray)(i:Nat):i<=dF s i:=zS _ _ _
theorem CC(s:ByteArray)(i:Nat)(a:i<=s.size):dF s i<=s.size:=Fy _ _ _ a
theorem CD(s:ByteArray)(i:Nat):dF s i<=eD s i:=by
 unfold eD;have:=zS (λc=> !zb c) s (dF s i);split<;>omega
theorem CE(s:ByteArray)(i:Nat)(a:i<=s.size):eD s i<=s.size:=by
 unfold eD;have:=Fy (λc=> !zb c) s (dF s i) (CC s i a);split<;>omega
theorem rW(s:ByteArray)(i:Nat)(a:dF s i<s.size):dF s i<eD s i:=by
 unfold eD;have:=zS (λc=> !zb c) s (dF s i);split<;>omega
theorem IG(s:ByteArray)(i:Nat)(a:i<=s.size)(b:¬dF s i<s.size):dF s i=s.size/\eD s i=s.size:=by
 have c:=CC s i a;have d:=CE s i a;have e:=CD s i;omega
def Rd(r:Nat)(s:ByteArray)(b e:Nat)(w:World):Prop:=w.heap[r]?=some (.cells #[af s,ab b,ab e] 146)
theorem Rd.cells{r:Nat}{s:ByteArray}{b e:Nat}{w:World}(a:Rd r s b e w):(w.cell? ⟨r,0,none⟩=some (af s)/\w.cell? ⟨r,1,none⟩=some (ab b)/\w.cell? ⟨r,2,none⟩=some (ab e))/\w.frozen? ⟨r,1,none⟩=false/\w.frozen? ⟨r,2,none⟩=false:=by
 unfold Rd at a;exact⟨⟨by simp[World.cell?,a],by simp[World.cell?,a],by simp[World.cell?,a]⟩,by simp[World.frozen?,a],by simp[World.frozen?,a]⟩
theorem Rd.set1{r:Nat}{s:ByteArray}{b e:Nat}{w:World}(a:Rd r s b e w)(k:Nat):Rd r s k e (w.setCell ⟨r,1,none⟩ (ab k)):=by
 unfold Rd at*;simp[World.setCell,bJ,a]
theorem Rd.set2{r:Nat}{s:ByteArray}{b e:Nat}{w:World}(a:Rd r s b e w)(k:Nat):Rd r s b k (w.setCell ⟨r,2,none⟩ (ab k)):=by
 unfold Rd at*;simp[World.setCell,bJ,a]
theorem Rd.drew{r:Nat}{s:ByteArray}{b e:Nat}{w:World}(a:Rd r s b e w)(n:Nat):Rd r s b e (w.drewN n):=a
theorem Rd.lt{r:Nat}{s:ByteArray}{b e:Nat}{w:World}(a:Rd r s b e w):r<w.heap.size:=(aF.1 a).1
theorem mB(w:World)(r o:Nat)(v:Value):w.grownBy (w.setCell ⟨r,o,none⟩ v) (some r):=
 ⟨rfl,rfl,rfl,by simp[World.setCell],λk _ b=>eY w _ v k (λa=>b (by rw[a]))⟩
theorem eN(w:World)(n:Nat)(q:Option Nat):w.grownBy (w.drewN n) q:=⟨rfl,rfl,rfl,am _,λ_ _ _=>rfl⟩
theorem bV{w w1 w2:World}{q:Option Nat}(a:w.grownBy w1 q)(k:w1.grownBy w2 q):w.grownBy w2 q:=
 ⟨k.os.trans a.os,k.tape.trans a.tape,k.output.trans a.output,az a.size k.size,λd b c=>(k.block d (aR b a.size) c).trans (a.block d b c)⟩
theorem Jv(c:UInt8)(w:World):ak 107 #[.int .u8 c.toNat] w λe w'=>e=.returned (.bool (zb c))/\w'=w:=by
 by_cases a:c=32
 ·subst a;go_enter func107,ntmps107;go_wp2_with fail
  all_goals go_ret
  all_goals exact⟨rfl,rfl⟩
 ·have d1:=j8 (k:=32) (d:=32) rfl a;by_cases b:c=40
  ·subst b;go_enter func107,ntmps107;go_wp2_with fail
   all_goals go_ret
   all_goals exact⟨rfl,rfl⟩
  ·have d2:=j8 (k:=40) (d:=40) rfl b;by_cases f:c=41
   ·subst f;go_enter func107,ntmps107;go_wp2_with fail
    all_goals go_ret
    all_goals exact⟨rfl,rfl⟩
   ·have d3:=j8 (k:=41) (d:=41) rfl f;go_enter func107,ntmps107;go_wp2_with fail
    all_goals go_ret
    all_goals exact⟨bP (by rw[show zb c=false by simp[zb,a,b,f]];simp;omega),rfl⟩
theorem Ll(r:Nat)(s:ByteArray)(b e:Nat)(w:World)(a:Rd r s b e w)(h:b<=e)(j:e<=s.size):ak 70 #[aC r] w λc w'=>c=.returned (af (s.extract b e))/\∃n,w'=w.drewN n:=by
 obtain⟨⟨d,f,g⟩,f1,f2⟩:=a.cells;clear a;have i:(b:Int)<=e:=by omega
 have k:(e:Int)<=s.size:=by omega
 go_enter func70,ntmps70;go_wp2_with fail
 go_quiet (fail)
 go_wp2_with fail
 go_ret
 exact⟨by simp,_,rfl⟩
end Go.Proofs.YtmmahddlcldmiaaGreat
