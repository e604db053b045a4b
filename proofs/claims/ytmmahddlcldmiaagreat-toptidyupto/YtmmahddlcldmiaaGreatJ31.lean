/- Proved here: plain facts and contracts. No condition but what each names. -/
import Derived.Test.YtmmahddlcldmiaaGreatJ30
import Derived.Deep.DeepCutAuto
namespace Go.Proofs.YtmmahddlcldmiaaGreat
open Go.RowKit Tryz
open Go.RowKit Go.Maps
set_option maxRecDepth 100000
set_option maxHeartbeats 2000000
def qk(M:aR)(a:Nat)(d b:fY)(w w':ag):Prop:=bB (λq=>d.ow q<0) w w'/\(∀q,q<w.heap.size->¬M q->b.ow q=d.ow q)/\(∀q,q<w.heap.size->M q->0<=b.ow q)/\b.k=d.k/\b.es.length<=d.es.length+a/\b.wn<=d.wn+a/\b.bn<=d.bn+a
section
variable {p:ke} {s:Sy} {d d1 d2:fY} {w w1 w2:ag} {M:aR} {a b:Nat}
theorem qk.up(m:qk M a d d1 w w1)(k:dX b d1 d2 w1 w2):qk M (a+b) d d2 w w2:=by
 obtain⟨h,i,j,n,q,r,s⟩:=m;obtain⟨o,l,p,u,v,x⟩:=k;have t:=h.size;refine⟨h.trans o λc e g=>?_,λc e f=>(l c (by omega)).trans (i c e f),λc e f=>by rw[l c (by omega)];exact j c e f,p.trans n,by omega,by omega,by omega⟩;by_cases f:M c
 ·have:=j c e f;omega
 ·rw[i c e f]at g;exact g
theorem qk.ad{M':aR}(m:qk M a d d1 w w1)(k:NY M' b d1 d2 w1 w2)(o:∀q,M' q->M q):qk M (a+b) d d2 w w2:=by
 obtain⟨h,i,j,n,t,u,v⟩:=m;obtain⟨p,l,r,s,y,z,A⟩:=k;have x:=h.size;refine⟨h.trans p λq e g=>?_,λq e c=>(l q (by omega) λf=>c (o q f)).trans (i q e c),λq e c=>?_,s.trans n,by omega,by omega,by omega⟩
 ·by_cases c:M q
  ·have:=j q e c;omega
  ·rw[i q e c]at g;exact g
 ·by_cases f:M' q
  ·have:=r q f;omega
  ·rw[l q (by omega) f];exact j q e c
theorem qk.mono(c:qk M a d d1 w w1)(l:a<=b):qk M b d d1 w w1:=by
 obtain⟨e,f,g,h,i,j,k⟩:=c;exact⟨e,f,g,h,by omega,by omega,by omega⟩
theorem FM.ug{m:Nat}{x:Tm m}(e:FM d w x)(k:qk M a d d1 w w1):FM d1 w1 x:=by
 have g:=eX k.1 (D:=λb=>0<=d.ow b/\b<w.heap.size) (λb c f=>by omega) ⟨e.1,In.offB e.2 e.1⟩;refine⟨g.1,g.2.mono λb c=>?_⟩;by_cases f:M b
 ·exact k.2.2.1 b c.2 f
 ·rw[k.2.1 b c.2 f];exact c.1
theorem A6(a:Int):(l:List (Int×ap×Tc))->(s:Sy)->(l.foldl (λs x=>s.add a x.2.1 x.2.2) s).ps.length=s.ps.length+l.length/\(l.foldl (λs x=>s.add a x.2.1 x.2.2) s).last=s.last+l.length
 | [],s=>by simp
 | x::l,s=>by
  have b:=A6 a l (s.add a x.2.1 x.2.2);rw[gD,b.1,b.2];simp only[Sy.add,Sy.tell,bw,br,iC];omega
theorem bt.follow(aG:bt p s d w){a:Int}(aq:dC a)(i:Tk)(bc:Au 8 i.sends i.spawns i.links)(y0 y1:Int)(y2:ap)(ya:aw)(yl yc:Nat){N aD a1 c B:Nat}{sa:aw}{sl sc:Nat}{pa:aw}{pl pc:Nat}{ka:aw}{kl kc:Nat}{O:aw}{vl S:Nat}{L:List (Int×Tm (N+1))}{K:List Nat}{aC:aR}(bl:w.ownsRow aD 177 5 (ae sa sl sc) sl (L.flatMap λg=>Nz g.1 g.2))(be:w.ownsRow aD 3 1 (ae ka kl kc) kl (i.links.map λu=>ab u))(bo:w.ownsRow a1 65 1 (ae O vl S) vl (K.map Ar))(bf:L.length=sl/\i.links.length=kl/\K.length=vl/\i.spawns.length=vl)(au:L.map (λg=>(g.1,cn _ g.2))=i.sends)(bm:∀g∈L,bE _ g.2=0/\FM d w g.2)(bh:∀q,((Value.slice sa sl sc).ownBlock=some q\/(Value.slice ka kl kc).ownBlock=some q\/(Value.slice O vl S).ownBlock=some q)->0<=d.ow q)(a9:mi p.lo p.room (d.k+201) aC B w i.spawns K c)(bA:B<=w.heap.size)(how:∀q,c<=q->q<B->d.ow q=0)(bg:s.may vl=true)(bG:d.k<=47000)(bC:d.es.length<=97000)(bL:d.wn<=900000)(bD:d.bn<=900000):am 49 #[aH p.b,ab a,OU y0 y1 y2 ya yl yc i.fate sa sl sc pa pl pc ka kl kc,ae O vl S] w λe w'=>e=.returned (.tuple #[])/\Hid (∃P,bt p (s.follow a i) P w'/\qk (λq=>c<=q/\q<B) 200 d P w w'):=by
 obtain⟨bp,bM,bN,bO⟩:=bf;obtain⟨⟨aF,bx,bz⟩,a5,a6⟩:=bc;have bJ:=Ke bg;have bK:sl<=8:=by rw[<-bp];rw[<-au,eu]at aF;exact aF
 have U:∀{E:Type}(l:List E)(g:E)(f:Nat),f<l.length->l[f]?=some (l.getD f g):=λl g f j=>by
  rw[mW,aM j];rfl
 obtain⟨n,ah⟩:∃n:Nat->Int×Tm (N+1),∀f,f<sl->L[f]?=some (n f):=⟨_,λf j=>U L (0,((0,0,⟨#[]⟩),(none,0),[])) f (by omega)⟩;obtain⟨aB,ak⟩:∃n:Nat->Int,∀f,f<kl->i.links[f]?=some (n f):=⟨_,λf j=>U i.links 0 f (by omega)⟩;obtain⟨az,aI⟩:∃n:Nat->Nat,∀f,f<vl->K[f]?=some (n f):=⟨_,λf j=>U K 0 f (by omega)⟩;obtain⟨bs,aK⟩:∃n:Nat->Int×ap×Tc,∀f,f<vl->i.spawns[f]?=some (n f):=⟨_,λf j=>U i.spawns (0,⟨#[]⟩,tF) f (by omega)⟩;have ar:∀q,((Value.slice sa sl sc).ownBlock=some q\/(Value.slice ka kl kc).ownBlock=some q\/(Value.slice O vl S).ownBlock=some q)->¬d.ow q<0:=λq g=>by have:=bh q g;omega
 have ba:∀h,bB (λq=>d.ow q<0) w h->∀f,f<sl->∃o,sa=some ⟨o,0,none⟩/\∀(t:Nat)(u:av),(Nz (n f).1 (n f).2)[t]?=some u->h.cell? ⟨o,f*5+t,none⟩=some u:=λh Q f j=>by
  obtain⟨_,_,y,_,D⟩:=rN (bu bl Q λq g=>ar q (ai g)) (by decide) λg=>rfl;injection y with y;subst y;obtain⟨o,A,_,C⟩:=D f _ (ah f j);exact⟨o,A,C⟩
 have a8:∀h,bB (λq=>d.ow q<0) w h->∀f,f<kl->∃o,ka=some ⟨o,0,none⟩/\h.cell? ⟨o,f,none⟩=some (ab (aB f)):=λh Q f j=>by
  have R:=bu be Q λq g=>ar q (aj (ai g));rw[List.map_eq_flatMap]at R;obtain⟨_,_,y,_,D⟩:=rN R (by decide) λg=>rfl;injection y with y;subst y;obtain⟨o,A,_,C⟩:=D f _ (ak f j);have:=C 0 _ rfl;simp only[Nat.mul_one,gH]at this;exact⟨o,A,this⟩
 have bb:∀h,bB (λq=>d.ow q<0) w h->∀f,f<vl->∃o,O=some ⟨o,0,none⟩/\h.cell? ⟨o,f,none⟩=some (.pointer (some ⟨az f,0,none⟩)):=λh Q f j=>by
  have R:=bu bo Q λq g=>ar q (aj (aj g));rw[List.map_eq_flatMap]at R;obtain⟨_,_,y,_,D⟩:=rN R (by decide) λg=>rfl;injection y with y;subst y;obtain⟨o,A,_,C⟩:=D f _ (aI f j);have:=C 0 _ rfl;simp only[Nat.mul_one,gH]at this;exact⟨o,A,this⟩
 have aP:∀{E:Type}{l:List E}{f:Nat}{g:E},l[f]?=some g->l.drop f=g::l.drop (f+1):=λ{E l f g} e=>by
  obtain⟨a7,rfl⟩:=aX.1 e;exact eM a7
 have ax:∀{E:Type}{l:List E}{f:Nat}{g:E},l[f]?=some g->l.take (f+1)=l.take f++ [g]:=λ{E l f g} e=>by
  rw[dz,e];rfl
 obtain⟨V,aT⟩:∃V,V=i.spawns.foldl (λs x=>s.add a x.2.1 x.2.2) s:=⟨_,rfl⟩;obtain⟨W,aU⟩:∃W,W=i.sends.foldl (λs x=>s.send a x.1 x.2) V:=⟨_,rfl⟩;obtain⟨X,aV⟩:∃X,X=i.links.foldl (λs x=>s.link a x) W:=⟨_,rfl⟩;have bk:s.follow a i=if i.fate=1 then X.fin a 1 else X:=by rw[aV,aU,aT];rfl
 let aE:Obj:=.cells #[ab y0,ab y1,af y2,ae ya yl yc,ab i.fate,ae sa sl sc,ae pa pl pc,ae ka kl kc] 117;let Z:Nat->Prop:=λq=>c<=q/\q<B;let aA:Sy->Nat->Nat->ag->Prop:=λbq k q h=>∃d1,bt p bq d1 h/\qk Z k d d1 w h/\(w.heap.size<=q/\q<h.heap.size/\h.heap[q]?=some aE/\d1.ow q=0)
 refine zX p.b a y0 y1 y2 ya yl yc i.fate sa sl sc pa pl pc ka kl kc O vl S az (λf=>(n f).1) (λf=>(n f).2.1.1) (λf=>(n f).2.1.2.1) (λf=>(n f).2.1.2.2) (λf=>(n f).2.2.1.1) (λf=>(n f).2.2.2.length) (λf=>(n f).2.2.1.2) aB w
  (λq f h=>∃d1,bt p ((i.spawns.take f).foldl (λs x=>s.add a x.2.1 x.2.2) s) d1 h/\qk Z f d d1 w h/\(w.heap.size<=q/\q<h.heap.size/\h.heap[q]?=some aE/\d1.ow q=0)/\∃T,c<=T/\mi p.lo p.room (d.k+201) aC B h (i.spawns.drop f) (K.drop f) T/\∀q,T<=q->q<B->d1.ow q=0)
  (λq f h=>aA ((i.sends.take f).foldl (λs x=>s.send a x.1 x.2) V) (vl+2*f) q h) (λq f h=>aA ((i.links.take f).foldl (λs x=>s.link a x) W) (vl+2*sl+f) q h) (λw'=>∃P,bt p (s.follow a i) P w'/\qk Z 200 d P w w') (by omega) (by omega) (by omega) (λq h al aQ aL=>?_) (λq h z=>?_) (λq h z=>?_) (λq f h z=>?_) (λq f h j z=>?_) (λq f h j z=>?_) (λq f h j z=>?_) λq h z=>?_
 ·have bj:=(aJ.1 aL).1;refine⟨d,aG.later al,⟨aO al _,λ_ _ _=>rfl,λq _ g=>by rw[how q g.1 g.2];exact jm 0,rfl,ao _,ao _,ao _⟩,⟨aQ,bj,aL,?_⟩,c,ao _,a9.kept (aO al λ_=>False) (λ_ _ g=>g.elim) (λ_ _ g=>g) (ao _),how⟩;by_cases g:d.ow q=0
  ·exact g
  ·have:=(aG.low q g).2;omega
 ·obtain⟨d1,r,m,F,_⟩:=z;rw[bF (by omega),<-aT]at r;exact⟨d1,r,m,F⟩
 ·obtain⟨d1,r,m,F⟩:=z;rw[bF (by rw[<-au,eu];omega),<-aU]at r;exact⟨d1,r,m,F⟩
 ·rcases z with⟨d1,_,_,F,_⟩|⟨d1,_,_,F⟩|⟨d1,_,_,F⟩
  ·exact F.2.2.1
  ·exact F.2.2.1
  ·exact F.2.2.1
 ·obtain⟨d1,r,m,⟨A,G,C,H⟩,T,bP,aY,ay⟩:=z;refine⟨bb h m.1 f j,?_⟩;rw[aP (aK f j),aP (aI f j)]at aY;obtain⟨a2,aa,bQ,aZ,_,a0⟩:=aY;have bd:=A6 a (i.spawns.take f) s;rw[dL]at bd;have bI:=a0.le;have bH:=m.2.2.2.1;refine(r.add a (M:=λq=>a2<=q/\q<aa) (aZ.mono (λ_ g=>g) (by omega) (P1.lie2 aZ)) (λq g=>ay q (by omega) (by omega)) (by omega) (by omega) (by have:=m.2.2.2.2.1;omega)).mono ?_;rintro e w' ⟨rfl,I⟩;obtain⟨d2,J,v⟩:=I.out;have aS:=v.1.size;refine⟨rfl,d2,?_,m.ad v λq g=>⟨by omega,by omega⟩,⟨A,by omega,?_,?_⟩,aa,by omega,a0.kept2 (c0:=aa) v.1 (λq aQ bi g=>?_) (λ_ _ g=>g) (ao _) (ao _),λq bR br=>?_⟩
  ·rw[ax (aK f j),jo];exact J
  ·rw[v.1.block q G (by rw[H];decide)];exact C
  ·rw[v.2.1 q G λg=>by omega];exact H
  ·have:=ay q (by omega) bi;omega
  ·have:=m.1.size;rw[v.2.1 q (by omega) λg=>by omega];exact ay q (by omega) br
 ·obtain⟨d1,r,m,A,G,C,H⟩:=z;obtain⟨o,y,D⟩:=ba h m.1 f j;refine⟨⟨o,y,D 0 _ rfl,D 1 _ rfl,D 2 _ rfl,D 3 _ rfl,D 4 _ rfl⟩,λbv an=>?_⟩;obtain⟨a3,a4⟩:=bm _ (aN (ah f j));have aW:i.sends[f]?=some ((n f).1,cn _ (n f).2):=by rw[<-au,dy,ah f j];rfl
  refine((r.later an).send ⟨aq,a5 _ (aN aW)⟩ (n f).2 ((a4.ug m).up (dX.later d1 an)) a3 (by have:=m.2.2.2.2.2.1;omega) (by have:=m.2.2.2.2.1;omega)).mono ?_;rintro e w' ⟨rfl,I⟩;obtain⟨d2,J,v⟩:=I.out;have Y:=(dX.later d1 an).trans v;have aS:=Y.1.size;refine⟨rfl,d2,?_,(m.up Y).mono (by omega),A,by omega,?_,?_⟩
  ·rw[ax aW,jo];exact J
  ·rw[Y.1.block q G (by rw[H];decide)];exact C
  ·rw[Y.2.1 q G];exact H
 ·obtain⟨d1,r,m,A,G,C,H⟩:=z;refine⟨a8 h m.1 f j,?_⟩;refine(r.link aq (a6 _ (aN (ak f j))) (by have:=m.2.2.2.2.2.2;omega)).mono ?_;rintro e w' ⟨rfl,I⟩;obtain⟨d2,J,v⟩:=I.out;have aS:=v.1.size;refine⟨rfl,d2,?_,(m.up v).mono (by omega),A,by omega,?_,?_⟩
  ·rw[ax (ak f j),jo];exact J
  ·rw[v.1.block q G (by rw[H];decide)];exact C
  ·rw[v.2.1 q G];exact H
 ·obtain⟨d1,r,m,A,G,C,H⟩:=z;rw[bF (by omega),<-aV]at r;rw[bk];refine⟨λe=>?_,λe=>⟨d1,by rw[if_neg e];exact r,m.mono (by omega)⟩⟩;refine(r.fin aq (by have:=m.2.2.2.2.1;omega)).mono ?_;rintro bw w' ⟨rfl,I⟩;obtain⟨d2,J,v⟩:=I;exact⟨rfl,d2,by rw[if_pos e];exact J,(m.up v).mono (by omega)⟩
end
structure T8 where
 y0:Int
 y1:Int
 y2:ap
 ya:aw
 yl:Nat
 yc:Nat
 f:Int
 sa:aw
 sl:Nat
 sc:Nat
 pa:aw
 pl:Nat
 pc:Nat
 ka:aw
 kl:Nat
 kc:Nat
theorem Pl{w:ag}{q:Nat}{g:Array av}{T:TypeId}{fr:Nat×Nat}(h:w.heap[q]?=some (.cells g T fr))(j:g.size=8)(v0 v1 v2 v3 c d e f:av):((((((((w.setCell ⟨q,0,none⟩ v0).setCell ⟨q,1,none⟩ v1).setCell ⟨q,2,none⟩ v2).setCell ⟨q,3,none⟩ v3).setCell ⟨q,4,none⟩ c).setCell ⟨q,5,none⟩ d).setCell ⟨q,6,none⟩ e).setCell ⟨q,7,none⟩ f).heap[q]?=some (.cells #[v0,v1,v2,v3,c,d,e,f] T fr)/\bB (λb=>b=q) w ((((((((w.setCell ⟨q,0,none⟩ v0).setCell ⟨q,1,none⟩ v1).setCell ⟨q,2,none⟩ v2).setCell ⟨q,3,none⟩ v3).setCell ⟨q,4,none⟩ c).setCell ⟨q,5,none⟩ d).setCell ⟨q,6,none⟩ e).setCell ⟨q,7,none⟩ f):=by
 refine⟨?_,(((((((bH w q 0 v0).trans (bH _ q 1 v1) λ_ _ a=>a).trans (bH _ q 2 v2) λ_ _ a=>a).trans (bH _ q 3 v3) λ_ _ a=>a).trans (bH _ q 4 c) λ_ _ a=>a).trans (bH _ q 5 d) λ_ _ a=>a).trans (bH _ q 6 e) λ_ _ a=>a).trans (bH _ q 7 f) λ_ _ a=>a⟩;obtain⟨l⟩:=g;have i:l.length=8:=by simpa using j
 match l,i with
 | [a0,a1,a2,a3,a4,a5,a6,a7],_=>simp[World.setCell,bO,h]
def NW(e:T8->Int->ag->ag->Prop)(w:ag)(q:Nat)(t:T8)(u:Int)(d:ag):Prop:=
 ∃a c,ak w a/\e t u a c/\(w.heap.size<=q/\(q<a.heap.size\/c.heap.size<=q))/\d.heap[q]?=some (.cells #[ab t.y0,ab t.y1,af t.y2,ae t.ya t.yl t.yc,ab t.f,ae t.sa t.sl t.sc,ae t.pa t.pl t.pc,ae t.ka t.kl t.kc] 117)/\bB (λb=>b=q) c d
theorem yk(g:Nat)(Z:Option Nat)(a S Y:Int)(N:aw)(P O:Nat)(aa:av)(F:Bool)(w:ag)(E:T8->Int->ag->ag->Prop)(M:Nat->T8->ag->Prop)(C:Nat->T8->av->Bool->ag->Prop)(R:Int->ag->Prop)(a1:IntKind.i64.wrap (S+1)=Y)(a7:g<w.heap.size)(ad:Hid (w.cell? ⟨g,0,none⟩=some (ae N P O)/\w.cell? ⟨g,2,none⟩=some (ab S)/\w.cell? ⟨g,3,none⟩=some (.map Z)))(aB:(Instr.lookup 67 (.map Z) (ab a) true).run Tryz.prog w=.ok (.tuple #[aa,.bool F]) w)(J:Hid (F=false->R 4 w))(L:Hid (F=true->∀W,ak w W->am 45 #[aa,ae N P O,ab a,ab Y] W λe w'=>∃(t:T8)(u:Int),e=.returned (.tuple #[.agg #[ab t.y0,ab t.y1,af t.y2,ae t.ya t.yl t.yc,ab t.f,ae t.sa t.sl t.sc,ae t.pa t.pl t.pc,ae t.ka t.kl t.kc],ab u])/\Hid (E t u W w'/\(∀q,w.heap.size<=q->q<W.heap.size->w'.heap[q]?=W.heap[q]?)/\W.heap.size<=w'.heap.size/\(w'.cell? ⟨g,0,none⟩=some (ae N P O)/\w'.cell? ⟨g,2,none⟩=some (ab S)))))(HB:Hid (∀q t u W,NW E w q t u W->u≠0->R u W))(B:Hid (∀q t W,NW E w q t 0 W->am 46 #[aH g,af ⟨#[116,97,107,101]⟩,ab a,ab 0,.agg #[ab t.y0,ab t.y1,af t.y2,ae t.ya t.yl t.yc]] W λe w'=>e=.returned (.tuple #[])/\Hid (M q t w')))(x:Hid (∀q t W,M q t W->am 47 #[aH g,ae t.pa t.pl t.pc] W λe w'=>∃v b,e=.returned (.tuple #[v,.bool b])/\Hid (C q t v b w')))(y:Hid (∀q t W,M q t W->W.heap[q]?=some (.cells #[ab t.y0,ab t.y1,af t.y2,ae t.ya t.yl t.yc,ab t.f,ae t.sa t.sl t.sc,ae t.pa t.pl t.pc,ae t.ka t.kl t.kc] 117)))(z:Hid (∀q t v b W,C q t v b W->W.heap[q]?=some (.cells #[ab t.y0,ab t.y1,af t.y2,ae t.ya t.yl t.yc,ab t.f,ae t.sa t.sl t.sc,ae t.pa t.pl t.pc,ae t.ka t.kl t.kc] 117)))(l:Hid (∀q t v b W,C q t v b W->(t.f=2\/t.f=3)->am 48 #[aH g,ab a,ab t.f] W λe w'=>e=.returned (.tuple #[])/\Hid (R 0 w')))(m:Hid (∀q t v W,C q t v false W->¬(t.f=2\/t.f=3)->am 48 #[aH g,ab a,ab 2] W λe w'=>e=.returned (.tuple #[])/\Hid (R 0 w')))(n:Hid (∀q t v W,C q t v true W->¬(t.f=2\/t.f=3)->am 49 #[aH g,ab a,.agg #[ab t.y0,ab t.y1,af t.y2,ae t.ya t.yl t.yc,ab t.f,ae t.sa t.sl t.sc,ae t.pa t.pl t.pc,ae t.ka t.kl t.kc],v] W λe w'=>e=.returned (.tuple #[])/\Hid (R 0 w'))):am 24 #[aH g,ab a] w λe w'=>∃v,e=.returned (ab v)/\Hid (R v w'):=by
 obtain⟨an,ap,ar⟩:=ad;go_enter func24,ntmps24;go_upto_region 2 with fail;cases F
 ·have K:=au (J rfl);clear L J HB B x y z l m n;go_wp2_with fail
  go_ret
  exact⟨4,rfl,K⟩
 have V:=au (L rfl);clear L J aB ar;have H:Hid (ak w w.drew):=(aq _ _).drew;have I:Hid (∀o,ak w (w.drew.alloc o)):=λo=>(aq _ _).drew.alloc (ao _) o;have a2:¬(w.heap.size=g):=by omega
 have a3:¬(g=w.heap.size):=by omega
 go_upto_region 4 with fail;go_cut [7,8] (λaC aD aG=>∃(q:Nat)(t:T8)(u:Int),aC=aH q/\aD=ab u/\Hid (NW E w q t u aG))
 case first=>
  clear HB B x y z l m n
  go_region_with ((first
   | (go_at_call 45;refine(V _ (by first|exact H|exact I _)).mono ?_;rintro e c ⟨t,u,rfl,p⟩;have a6:g<c.heap.size:=(by have:=p.2.2.1;simp at this;omega);have a4:¬(c.heap.size=g):=(by omega);have a5:¬(g=c.heap.size):=(by omega);obtain⟨a9,ba⟩:=p.out.2.2.2;(first|(have d:c.heap[w.heap.size]?=some (.cells #[ab 0,ab 0,af ⟨#[]⟩,ae none 0 0,ab 0,ae none 0 0,ae none 0 0,ae none 0 0] 117):=((p.2.1 w.heap.size (ao _) (by simp)).trans (aF w.drew _));obtain⟨bb,bc,bd,be,bf,bg,bh,bi⟩:c.cell? ⟨w.heap.size,0,none⟩=some (ab 0)/\c.cell? ⟨w.heap.size,1,none⟩=some (ab 0)/\c.cell? ⟨w.heap.size,2,none⟩=some (af ⟨#[]⟩)/\c.cell? ⟨w.heap.size,3,none⟩=some (ae none 0 0)/\c.cell? ⟨w.heap.size,4,none⟩=some (ab 0)/\c.cell? ⟨w.heap.size,5,none⟩=some (ae none 0 0)/\c.cell? ⟨w.heap.size,6,none⟩=some (ae none 0 0)/\c.cell? ⟨w.heap.size,7,none⟩=some (ae none 0 0):=⟨ah d 0,ah d 1,ah d 2,ah d 3,ah d 4,ah d 5,ah d 6,ah d 7⟩;have aJ:c.frozen? ⟨w.heap.size,0,none⟩=false:=(by simp[World.frozen?,d]);have aK:c.frozen? ⟨w.heap.size,1,none⟩=false:=(by simp[World.frozen?,d]);have aL:c.frozen? ⟨w.heap.size,2,none⟩=false:=(by simp[World.frozen?,d]);have aM:c.frozen? ⟨w.heap.size,3,none⟩=false:=(by simp[World.frozen?,d]);have aN:c.frozen? ⟨w.heap.size,4,none⟩=false:=(by simp[World.frozen?,d]);have aP:c.frozen? ⟨w.heap.size,5,none⟩=false:=(by simp[World.frozen?,d]);have aQ:c.frozen? ⟨w.heap.size,6,none⟩=false:=(by simp[World.frozen?,d]);have aR:c.frozen? ⟨w.heap.size,7,none⟩=false:=(by simp[World.frozen?,d]);have al:=au d;clear d)|skip))))
  all_goals (go_wp2_with fail;go_meet)
  all_goals (refine⟨_,t,u,rfl,rfl,?_⟩)
  all_goals (first
   | exact⟨_,c,H,p.1,⟨by have:=p.2.2.1;simpa using this,aj (ao _)⟩,aF _ _,aO ((aq _ _).alloc (ao _) _) _⟩
   | exact⟨_,c,I _,p.1,⟨ao _,ai (by simp)⟩,Pl al rfl _ _ _ _ _ _ _ _⟩)
 case rest=>
 obtain⟨q,t,u,rfl,rfl,A⟩:=hcut;clear V H I an ap;by_cases Q:u=0;rotate_left
 ·have K:=au (HB _ _ _ _ A Q);have a8:(u==0)=false:=by simpa using Q
  clear A HB B x y z l m n;go_wp2_with fail
  go_ret
  exact⟨u,rfl,K⟩
 subst Q;have X:=au (B _ _ _ A);obtain⟨_,_,_,_,_,D,_⟩:=A.out;have ax:wc.cell? ⟨q,0,none⟩=some (ab t.y0):=ah D 0;have d1:wc.cell? ⟨q,1,none⟩=some (ab t.y1):=ah D 1;have ay:wc.cell? ⟨q,2,none⟩=some (af t.y2):=ah D 2;have az:wc.cell? ⟨q,3,none⟩=some (ae t.ya t.yl t.yc):=ah D 3;clear D A HB B;go_wp2_with fail;refine X.mono ?_;rintro e aE ⟨rfl,G⟩;have U:=au (x _ _ _ G);have aA:aE.cell? ⟨q,6,none⟩=some (ae t.pa t.pl t.pc):=ah (y _ _ _ G) 6;clear X x y G ax d1 ay az;go_wp2_with fail;refine U.mono ?_;rintro e i ⟨v,b,rfl,j⟩;have h:=au (z _ _ _ _ _ j);have aI:i.cell? ⟨q,4,none⟩=some (ab t.f):=ah h 4;clear aA U z;by_cases s:t.f=2\/t.f=3
 ·have r:=au (l _ _ _ _ _ j s);clear m n l j h;generalize t.f=f at*;rcases s with rfl|rfl
  ·go_wp2_with fail;refine r.mono ?_;rintro e T ⟨rfl,k⟩;go_wp2_with fail
   go_ret
   exact⟨0,rfl,k⟩
  ·go_wp2_with fail;refine r.mono ?_;rintro e T ⟨rfl,k⟩;go_wp2_with fail
   go_ret
   exact⟨0,rfl,k⟩
 have aZ:(t.f==2)=false:=by simpa using λe=>s (ai e)
 have a0:(t.f==3)=false:=by simpa using λe=>s (aj e)
 cases b
 ·have r:=au (m _ _ _ _ j s);clear m n l j h;go_wp2_with fail;refine r.mono ?_;rintro e T ⟨rfl,k⟩;go_wp2_with fail
  go_ret
  exact⟨0,rfl,k⟩
 ·have r:=au (n _ _ _ _ j s);have aS:i.cell? ⟨q,0,none⟩=some (ab t.y0):=ah h 0;have aT:i.cell? ⟨q,1,none⟩=some (ab t.y1):=ah h 1;have aU:i.cell? ⟨q,2,none⟩=some (af t.y2):=ah h 2;have aV:i.cell? ⟨q,3,none⟩=some (ae t.ya t.yl t.yc):=ah h 3;have aW:i.cell? ⟨q,5,none⟩=some (ae t.sa t.sl t.sc):=ah h 5;have aX:i.cell? ⟨q,6,none⟩=some (ae t.pa t.pl t.pc):=ah h 6;have aY:i.cell? ⟨q,7,none⟩=some (ae t.ka t.kl t.kc):=ah h 7;clear m n l j h;go_wp2_with fail;refine r.mono ?_;rintro e T ⟨rfl,k⟩;go_wp2_with fail
  go_ret
  exact⟨0,rfl,k⟩
def FQ(f:Tk)(t:T8)(d:fY)(W:ag):Prop:=
 ∃(h g:Nat)(c:List (Int×Tm (h+1)))(e:List (Int×ap×Tm (h+1))),(c.length=t.sl/\e.length=t.pl/\f.links.length=t.kl)/\W.ownsRow g 177 5 (ae t.sa t.sl t.sc) t.sl (c.flatMap λa=>Nz a.1 a.2)/\W.ownsRow g 174 6 (ae t.pa t.pl t.pc) t.pl (e.flatMap λa=>OC a.1 a.2.1 a.2.2)/\W.ownsRow g 3 1 (ae t.ka t.kl t.kc) t.kl (f.links.map λi=>ab i)/\
  c.map (λa=>(a.1,cn _ a.2))=f.sends/\e.map (λa=>(a.1,a.2.1,cn _ a.2.2))=f.spawns/\(∀a∈c,bE _ a.2=0/\FM d W a.2)/\(∀a∈e,bE _ a.2.2=0/\FM d W a.2.2)/\∀b,((Value.slice t.sa t.sl t.sc).ownBlock=some b\/(Value.slice t.pa t.pl t.pc).ownBlock=some b\/(Value.slice t.ka t.kl t.kc).ownBlock=some b)->b<W.heap.size/\0<=d.ow b
theorem FQ.kee{n:Tk}{t:T8}{d h:fY}{W g:ag}(s:FQ n t d W)(b:bB (λq=>d.ow q<0) W g)(m:∀q,q<W.heap.size->h.ow q=d.ow q):FQ n t h g:=by
 obtain⟨p,r,A,B,e,u,v,w,x,y,k,l,f⟩:=s;have hF:∀{z:Nat}{o:Tm z},FM d W o->FM h g o:=λj=>by
  have e:=eX b (D:=λq=>0<=d.ow q/\q<W.heap.size) (λq a C=>by omega) ⟨j.1,In.offB j.2 j.1⟩;exact⟨e.1,e.2.mono λq a=>by rw[m q a.2];exact a.1⟩
 have i:∀q,((Value.slice t.sa t.sl t.sc).ownBlock=some q\/(Value.slice t.pa t.pl t.pc).ownBlock=some q\/(Value.slice t.ka t.kl t.kc).ownBlock=some q)->¬d.ow q<0:=λq a=>by have:=(f q a).2;omega
 exact⟨p,r,A,B,e,bu u b λq a=>i q (ai a),bu v b λq a=>i q (aj (ai a)),bu w b λq a=>i q (aj (aj a)),x,y,λa c=>⟨(k a c).1,hF (k a c).2⟩,λa c=>⟨(l a c).1,hF (l a c).2⟩,λq a=>⟨aW (f q a).1 b.size,by rw[m q (f q a).1];exact(f q a).2⟩⟩
def Qd(t:T8):Obj:=.cells #[ab t.y0,ab t.y1,af t.y2,ae t.ya t.yl t.yc,ab t.f,ae t.sa t.sl t.sc,ae t.pa t.pl t.pc,ae t.ka t.kl t.kc] 117
section
variable {p:ke} {s:Sy} {d:fY} {w:ag}
theorem fN.ug{M:aR}{k b c:Nat}{d1 e:fY}{w1 w2:ag}(m:fN k c d d1 w w1)(g:qk M b d1 e w1 w2)(n:∀q,M q->w.heap.size<=q):fN (k+b) c d e w w2:=by
 obtain⟨f,h,u,v,x,y⟩:=m;obtain⟨j,l,_,p,r,s,t⟩:=g;have z:=f.size;exact⟨f.trans j λq a i=>by rw[h q a]at i;omega,λq a=>(l q (by omega) λo=>by have:=n q o;omega).trans (h q a),by omega,by omega,by omega,by omega⟩
def O4(p:ke)(s:Sy)(d:fY)(w:ag)(a:Tk)(q:Nat)(t:T8)(d1:fY)(W:ag):Prop:=
 bt p s d1 W/\fN 1 402 d d1 w W/\(w.heap.size<=q/\q<W.heap.size/\d1.ow q=0/\W.heap[q]?=some (Qd t))/\t.f=a.fate/\FQ a t d1 W
theorem bt.run(q:bt p s d w){a:Int}(aT:dC a)(cv:d.k<=46000)(cs:d.es.length<=96000)(cB:d.wn<=800000)(cu:d.bn<=800000):am 24 #[aH p.b,ab a] w λe w'=>∃v,e=.returned (ab v)/\Hid (v=(s.run p.n p.prog p.room a).2/\∃E,bt p (s.run p.n p.prog p.room a).1 E w'/\fN 201 402 d E w w'):=by
 obtain⟨bS,aY⟩:=q.lo;obtain⟨a9,cm,ba,bb⟩:=q.cells;obtain⟨_,_,_,cp,cq,_⟩:=q.keys;have bj:kF (p.n+1) p.prog=true:=(fy q.pg.2.2.2.1).1;have bh:IntKind.i64.wrap (s.last+1)=s.last+1:=by rw[IntKind.wrap];simp[IntKind.bits,IntKind.signed];omega
 have af:=q.look a true;have aA:=q.alive a;rw[if_pos rfl]at af;obtain⟨P,m⟩:∃P,P=s.run p.n p.prog p.room a:=⟨_,rfl⟩;rw[<-m];unfold Sy.run at m;cases hg:s.get a with
 | none=>
  rw[hg]at m aA;rw[aA]at af;have bD:(4:Int)=P.2/\∃E,bt p P.1 E w/\fN 201 402 d E w w:=by
   rw[m];exact⟨rfl,d,q,(dX.later d (aq _ _)).un.mono (aL _) (aL _)⟩
  exact yk p.b d.po a s.last (s.last+1) p.pa p.prog.length p.pc _ false w (λ_ _ _ _=>False) (λ_ _ _=>False) (λ_ _ _ _ _=>False) (λv w'=>v=P.2/\∃E,bt p P.1 E w'/\fN 201 402 d E w w') bh aY ⟨a9,ba,bb⟩ af (λ_=>bD) ((λg=>by cases g)) (λ_ _ _ _ ⟨_,_,_,g,_⟩=>g.elim) (λ_ _ _ ⟨_,_,_,g,_⟩=>g.elim) (λ_ _ _ g=>g.elim) (λ_ _ _ g=>g.elim) (λ_ _ _ _ _ g=>g.elim) (λ_ _ _ _ _ g=>g.elim) (λ_ _ _ _ g=>g.elim) λ_ _ _ _ g=>g.elim
 | some au=>
  obtain⟨B,ad,W⟩:=au;rw[hg]at m aA;obtain⟨bw,aE⟩:=fA.1 aA;rw[aE]at af;obtain⟨cb,bJ,bI,aw,bM,co⟩:=q.ps a bw aE;rw[hg]at aw;obtain⟨rfl,rfl,rfl⟩:B=cb/\ad=bJ/\W=bI:=by
   injection aw with aw;injection aw with z u;injection u with u bK;exact⟨z,u,bK⟩
  have ct:=(q.key aE).1;obtain⟨U,aS⟩:∃U,U=rV p.n p.room p.prog B a (s.last+1) ad W:=⟨_,rfl⟩;simp only[<-aS]at m;have aC:∀h,w.heap.size<=h->d.ow h=0:=λh aV=>by
   by_cases g:d.ow h=0
   ·exact g
   ·have:=(q.low h g).2;omega
  refine yk p.b d.po a s.last (s.last+1) p.pa p.prog.length p.pc _ true w
   (λt aa l w'=>(aa≠0/\aa=U/\ak l w')\/(aa=0/\U=0/\∃(r:Tc)(i:Tk)(J:Nat),(r.1=(t.y0,t.y1,t.y2)/\r.2.1=(t.ya,t.yc)/\r.2.2.length=t.yl)/\nJ p.room p.prog B a (s.last+1) ad W=some i/\t.f=i.fate/\cn 13 r=i.message/\bE 13 r=0/\In w'.heap.size w' 13 r/\cr (λh=>l.heap.size<=h/\h<J) 13 r/\bZ (λh=>d.ow h=a) l w'/\l.heap.size<J/\P1 p.lo bw B p.room i.state i.mail (d.k+201+402) (λb=>(d.ow b=a\/J<=b)/\b<w'.heap.size) w'/\i.mail.length<=W.length/\l6 (l.heap.size+1) i.sends i.spawns i.links t.sa t.sl t.sc t.pa t.pl t.pc t.ka t.kl t.kc (λ_=>True) w'))
   (λh t l=>∃i d1,U=0/\nJ p.room p.prog B a (s.last+1) ad W=some i/\O4 p ((s.put a (B,i.state,i.mail)).tell om a 0 i.message) d w i h t d1 l)
   (λh t v b l=>∃i d1,U=0/\nJ p.room p.prog B a (s.last+1) ad W=some i/\O4 p ((s.put a (B,i.state,i.mail)).tell om a 0 i.message) d w i h t d1 l/\b=Sy.made p.n p.prog p.room ((s.put a (B,i.state,i.mail)).tell om a 0 i.message) i.spawns/\(b=true->∃V aP aQ c,v=ae aP t.pl aQ/\V.length=t.pl/\w.heap.size<=c/\(∀h,c<=h->d1.ow h=0)/\l.ownsRow c 65 1 v t.pl (V.map Ar)/\mi p.lo p.room (d1.k+201) (λh=>v.ownBlock=some h) l.heap.size l i.spawns V c))
   (λv w'=>v=P.2/\∃E,bt p P.1 E w'/\fN 201 402 d E w w') bh aY ⟨a9,ba,bb⟩ (by rw[af];rfl) ((λg=>by cases g)) (λ_ l az=>?_) (λh t aa l aR bq=>?_) (λh t l aR=>?_) (λh t l F=>?_) (λh t l F=>?_) (λh t v b l F=>?_) (λh t v b l F N=>?_) (λh t v l F N=>?_) λh t v l F N=>?_
  ·have X:=q.later az;have J:=cN (ed (p.n+1)) 2 (pN (p.n+1)) p.pa;refine((bM.later az).step p.prog p.pa p.pc l.heap.size X.pg.1.1 (ao _) q.pg.2.1 q.pg.2.2.1 (λ_=>q.pg.2.2.2.2) (λbF ay=>J.2.2.1 _ _ _ bF _ (λb h=>ay.block b h.2 λg=>by have:=h.1;rw[g]at this;omega) (J.2.1 _ _ _ _ X.pg.1.2 X.pg.1.1) X.pg.1.1) (aD bS az.size) (by omega) (by omega) a (s.last+1)).mono ?_;rintro e w' (⟨aa,rfl,y⟩|⟨r,f,sa,sl,sc,pa,pl,pc,ka,kl,kc,rfl,y⟩)
   ·obtain⟨K,S,G⟩:=y.out;have bf:=(X.later G).cells;exact⟨⟨0,0,⟨#[]⟩,none,0,0,0,none,0,0,none,0,0,none,0,0⟩,aa,rfl,ai ⟨K,S.trans aS.symm,G⟩,λh _ aV=>G.block h aV,G.size,bf.1,bf.2.2.1⟩
   ·obtain⟨i,J,K,S,G,al,L,b0,b1,aI,b2,bY⟩:=y.out;have be:w'.heap[p.b]?=some (.cells (eh p s d) 74):=(aI.block p.b (aW aY az.size) (by rw[q.own];omega)).trans X.box;exact⟨⟨r.1.1,r.1.2.1,r.1.2.2,r.2.1.1,r.2.2.length,r.2.1.2,f,sa,sl,sc,pa,pl,pc,ka,kl,kc⟩,0,rfl,aj ⟨rfl,aS.trans K,r,i,J,⟨rfl,rfl,rfl⟩,S,G,al,L,b0,b1,aI,b2,bY⟩,λh ax bN=>aI.block h bN (by rw[aC h ax];omega),aI.size,ah be 0,ah be 2⟩
  ·obtain⟨Q,ar,K,S,G,al,L⟩:=aR;rcases S with⟨_,e,b3⟩|⟨e,_⟩
   ·rw[if_neg (by rw[<-e];exact bq)]at m;have ay:bB (λb=>b=h) w l:=((aO K λb=>b=h).trans (aO b3 λb=>b=h) λ_ _ e=>e).trans L λ_ _ e=>e;rw[m];exact⟨e,d,q.kept ay λb g=>by rw[g];exact aC h G.1,ay.mono λb aB g=>by omega,λ_ _=>rfl,by omega,by omega,by omega,by omega⟩
   ·exact absurd e bq
  ·obtain⟨Q,ar,K,S,G,al,L⟩:=aR;rcases S with⟨e,_⟩|⟨_,bO,r,i,J,⟨bc,bd,bL⟩,b4,b6,b7,b8,br,b9,Z,cD,bs,cC,b5⟩
   ·exact absurd rfl e
   have bR:bB (λh=>d.ow h=a) Q ar:=⟨Z.os,Z.tape,Z.output,Z.size,Z.block⟩;have cx:=K.size;have cy:=Z.size;have cz:=L.size
   obtain⟨bx,bz⟩:=(q.later K).turnP aE hg bR (j:=d.k+402) (λh g=>by
    rcases g.1 with g|g
    ·exact ai g
    ·exact aj (by omega)) (by omega) (bs.mono (λ_ g=>g) (by omega) (P1.lie2 bs)) (by omega)
   generalize aU:({d with ow:=Fv d Q ar a,k:=d.k+402}:fY)=d1 at bx bz;have bi:∀b,d1.ow b=if Q.heap.size<=b/\b<ar.heap.size then a else d.ow b:=λb=>by rw[<-aU];rfl
   have aX:d1.ow h=0:=by
    rw[bi,if_neg (by omega)];exact aC h G.1
   have bk:∀b,Q.heap.size<=b->0<=d1.ow b:=λb aB=>by
    rw[bi];split
    ·omega
    ·rw[aC b (by omega)];exact jm 0
   have ax:bt p (s.put a (B,i.state,i.mail)) d1 l:=bx.kept L λb g=>by rw[g];exact aX
   have bW:fN 0 402 d d1 w l:=by
    have z:=((dX.later d K).un.trans bz);obtain⟨ce,cf,cg,ch,ci,cj⟩:=z;exact⟨ce.trans L λb aB g=>by omega,cf,by rw[<-aU]at cg ⊢;show d.k+402<=_;omega,ch,ci,cj⟩
   have bX:=eX L (D:=λb=>Q.heap.size<=b/\b<ar.heap.size) (λb g cl=>by omega) ⟨br,In.offB (b9.mono λb g=>g.1) br⟩;have bP:FQ i t d1 l:=by
    obtain⟨av,aM,aN,A,o,x,H,T,O,an,a6,ca⟩:=b5.kept L λb ck _ cF cG=>by omega
    have bg:∀{a5:Nat}{au:Tm a5},In l.heap.size l a5 au->cr (λb=>Q.heap.size+1<=b/\True) a5 au->FM d1 l au:=λbG bH=>⟨bG,bH.mono λb g=>bk b (by omega)⟩;refine⟨av,_,aM,aN,A,o,x,H,T,O,λg I=>⟨(an g I).1,bg (an g I).2.1 (an g I).2.2⟩,λg I=>⟨(a6 g I).1,bg (a6 g I).2.1 (a6 g I).2.2⟩,λb g=>⟨?_,bk b (by have:=(ca b g).1;omega)⟩⟩;rcases g with g|g|g
    ·exact(o.lt b g).2
    ·exact(x.lt b g).2
    ·exact(H.lt b g).2
   obtain⟨⟨cE,ck,cl⟩,⟨cH,cI⟩,cJ⟩:=r;simp only[ew]at bc bd;obtain⟨rfl,rfl,rfl⟩:=bc;obtain⟨rfl,rfl⟩:=bd;rw[<-bL];have bQ:d1.es=d.es:=by rw[<-aU]
   refine(ax.tell om a 0 _ _ _ _ _ _ _ (kB bX.1 b8) (by rw[bQ];omega)).mono ?_;rintro e w' ⟨rfl,y⟩;obtain⟨R,M,C⟩:=y.out.up ax;have bl:=(aJ.1 al).1;have cA:=C.1.size;rw[b7]at M;refine⟨rfl,i,R,bO,b4,M,(bW.trans C.un).mono (by omega) (by omega),⟨G.1,by omega,by rw[C.2.1 h bl];exact aX,?_⟩,b6,bP.kee C.1 C.2.1⟩;rw[C.1.block h bl (by rw[aX];decide)];exact al
  ·obtain⟨i,d1,z,u,⟨A,o,x,H,T⟩⟩:=F;obtain⟨av,a8,aM,aN,Y,a0,a1,a2,a3,ag,a4,aF,aG⟩:=T;have aZ:=KU bj u;have cw:t.pl<=8:=by
    have:=aZ.1.2.1;rw[<-ag,eu]at this;omega
   refine(A.made a1 Y.2.1 (by omega) λg I=>⟨(aF g I).1,(aF g I).2.1⟩).mono ?_;rintro e w' ⟨v,b,rfl,y⟩;obtain⟨ap,bu,bv⟩:=y.out;rw[ag]at bu bv;have bU:∀h,l.heap.size<=h->d1.ow h=0:=λh aV=>by
    by_cases g:d1.ow h=0
    ·exact g
    ·have:=(A.low h g).2;omega
   refine⟨v,b,rfl,i,d1,z,u,⟨A.later ap,(o.trans (dX.later d1 ap).un).mono (ao _) (ao _),⟨x.1,aW x.2.1 ap.size,x.2.2.1,gm ap x.2.2.2⟩,H,FQ.kee ⟨av,a8,aM,aN,Y,a0,a1,a2,a3,ag,a4,aF,aG⟩ (aO ap _) λ_ _=>rfl⟩,bu,λaB=>?_⟩;obtain⟨V,aP,aQ,cc,a7,bA,aK⟩:=bv aB;exact⟨V,aP,aQ,l.heap.size,cc,a7,o.1.size,bU,bA,aK⟩
  ·obtain⟨i,d1,z,u,A,o,x,_⟩:=F;exact x.2.2.2
  ·obtain⟨i,d1,z,u,⟨A,o,x,_⟩,_⟩:=F;exact x.2.2.2
  ·obtain⟨i,d1,z,u,⟨A,o,x,H,T⟩,_⟩:=F;rw[if_pos z,u]at m;simp only at m;rw[H]at N ⊢;rw[if_pos N]at m;refine(A.fin aT (by have:=o.2.2.2.1;omega)).mono ?_;rintro e w' ⟨rfl,y⟩;obtain⟨R,M,C⟩:=y.out;rw[m];exact⟨rfl,rfl,R,M,(o.trans C.un).mono (by omega) (by omega)⟩
  ·obtain⟨i,d1,z,u,⟨A,o,x,H,T⟩,O,_⟩:=F;rw[if_pos z,u]at m;simp only at m;rw[H]at N;rw[if_neg N,if_pos O.symm]at m;have bm:=congrArg Prod.fst m;have bo:=congrArg Prod.snd m;dsimp only at bm bo;refine(A.fin (how:=2) aT (by have:=o.2.2.2.1;omega)).mono ?_;rintro e w' ⟨rfl,y⟩;obtain⟨R,M,C⟩:=y.out;rw[<-bm]at M;exact⟨rfl,bo.symm,R,M,(o.trans C.un).mono (by omega) (by omega)⟩
  ·obtain⟨i,d1,z,u,⟨A,o,x,H,T⟩,O,an⟩:=F;rw[if_pos z,u]at m;simp only at m;rw[H]at N;have bV:¬Sy.made p.n p.prog p.room ((s.put a (B,i.state,i.mail)).tell om a 0 i.message) i.spawns=false:=λg=>Bool.noConfusion (O.trans g);rw[if_neg N,if_neg bV]at m;obtain⟨V,aP,aQ,c,rfl,a7,bA,aK,bC,cd⟩:=an rfl;obtain⟨av,a8,aM,aN,Y,a0,a1,a2,a3,ag,a4,aF,aG⟩:=T;have aZ:=KU bj u;have bp:i.spawns.length=t.pl:=by rw[<-ag,eu];exact Y.2.1
   have bT:Sy.may ((s.put a (B,i.state,i.mail)).tell om a 0 i.message) t.pl=true:=by
    unfold Sy.made at O;rw[bp]at O;exact(Bool.and_eq_true_iff.1 O.symm).1
   have hF:=A.follow (pa:=t.pa) (pl:=t.pl) (pc:=t.pc) aT i aZ t.y0 t.y1 t.y2 t.ya t.yl t.yc a0 a2 bC ⟨Y.1,Y.2.2,a7,bp⟩ a3 a4 (λb g=>?_) cd (ao _) (λh g _=>aK h g) bT (by have:=o.2.2.1;omega) (by have:=o.2.2.2.1;omega) (by have:=o.2.2.2.2.1;omega) (by have:=o.2.2.2.2.2;omega)
   ·rw[<-H]at hF;refine hF.mono ?_;rintro e w' ⟨rfl,y⟩;obtain⟨R,M,C⟩:=y;rw[m];exact⟨rfl,rfl,R,M,o.ug C λh g=>by omega⟩
   ·rcases g with g|g|g
    ·exact(aG b (ai g)).2
    ·exact(aG b (aj (aj g))).2
    ·rw[aK b (bC.lt b g).1];exact jm 0
end
theorem KK(o:Nat)(kd a b p q:Int)(r:ap)(xa:aw)(s xc:Nat)(w:ag)(R:Int->ag->Prop)(l:Hid (kd=1->∀W,ak w W->am 24 #[aH o,ab a] W λe w'=>∃v,e=.returned (ab v)/\Hid (R v w')))(h:Hid (kd=2->∀W,ak w W->am 25 #[aH o,ab a,ab b] W λe w'=>∃v,e=.returned (ab v)/\Hid (R v w')))(k:Hid (kd=3->∀W,ak w W->am 26 #[aH o,ab a,.agg #[ab p,ab q,af r,ae xa s xc]] W λe w'=>∃v,e=.returned (ab v)/\Hid (R v w')))(j:Hid (¬(kd=1\/kd=2\/kd=3)->∀W,ak w W->R 1 W)):am 8 #[aH o,.agg #[ab kd,ab a,ab b,ab p,ab q,af r,ae xa s xc]] w λe w'=>∃v,e=.returned (ab v)/\Hid (R v w'):=by
 go_enter func8,ntmps8;go_upto_region 1 with fail;generalize u:w.alloc _=c;have HB:Hid (ak w c):=by
  rw[<-u];exact(aq _ _).alloc (ao _) _
 have d:c.heap[w.heap.size]?=some (.cells #[ab kd,ab a,ab b,ab p,ab q,af r,ae xa s xc] 33):=by
  rw[<-u];exact aF _ _
 generalize w.heap.size=f at*;clear u;have B:c.cell? ⟨f,0,none⟩=some (ab kd):=ah d 0;have d1:c.cell? ⟨f,1,none⟩=some (ab a):=ah d 1;have C:c.cell? ⟨f,2,none⟩=some (ab b):=ah d 2;have D:c.cell? ⟨f,3,none⟩=some (ab p):=ah d 3;have E:c.cell? ⟨f,4,none⟩=some (ab q):=ah d 4;have F:c.cell? ⟨f,5,none⟩=some (af r):=ah d 5;have G:c.cell? ⟨f,6,none⟩=some (ae xa s xc):=ah d 6;clear d;by_cases m:kd=1
 ·have i:=au (l m _ HB);subst m;clear l h k j;go_wp2_with fail;refine i.mono ?_;rintro e y ⟨v,rfl,g⟩;go_wp2_with fail
  go_ret
  exact⟨v,rfl,g⟩
 have x:(kd==1)=false:=by simpa using m
 by_cases n:kd=2
 ·have i:=au (h n _ HB);subst n;clear l h k j m x;go_wp2_with fail;refine i.mono ?_;rintro e y ⟨v,rfl,g⟩;go_wp2_with fail
  go_ret
  exact⟨v,rfl,g⟩
 have A:(kd==2)=false:=by simpa using n
 by_cases t:kd=3
 ·have i:=au (k t _ HB);subst t;clear l h k j m x n A;go_wp2_with fail;refine i.mono ?_;rintro e y ⟨v,rfl,g⟩;go_wp2_with fail
  go_ret
  exact⟨v,rfl,g⟩
 have H:(kd==3)=false:=by simpa using t
 have z:=au (j (by omega) _ HB);clear l h k j;go_wp2_with fail
 go_ret
 exact⟨1,rfl,z⟩
section
variable {p:ke} {s:Sy} {d:fY} {w:ag}
theorem bt.do(o:bt p s d w){kd a b:Int}(u:I2 (a,b)){m:Nat}(x:Tm (m+1))(y:In w.heap.size w (m+1) x/\cr (λq=>¬1<=d.ow q) (m+1) x)(A:(aC (m+1) x).length<=2097152)(C:d.k<=46000)(z:d.es.length<=96000)(D:d.wn<=800000)(B:d.bn<=800000):am 8 #[aH p.b,.agg #[ab kd,ab a,ab b,ab x.1.1,ab x.1.2.1,af x.1.2.2,ae x.2.1.1 x.2.2.length x.2.1.2]] w λe w'=>∃v,e=.returned (ab v)/\Hid (v=(s.do p.n p.prog p.room kd a b (m+1) x).2/\∃f,bt p (s.do p.n p.prog p.room kd a b (m+1) x).1 f w'/\fN 201 402 d f w w'):=by
 obtain⟨r,g⟩:∃r,r=s.do p.n p.prog p.room kd a b (m+1) x:=⟨_,rfl⟩;rw[<-g];unfold Sy.do at g;refine KK p.b kd a b x.1.1 x.1.2.1 x.1.2.2 x.2.1.1 x.2.2.length x.2.1.2 w (λv w'=>v=r.2/\∃f,bt p r.1 f w'/\fN 201 402 d f w w') (λe t c=>?_) (λe t c=>?_) (λe t c=>?_) λe t c=>?_
 ·rw[if_pos e]at g;refine((o.later c).run u.1 C z D B).mono ?_;rintro e w' ⟨v,rfl,h⟩;obtain⟨i,f,j,l⟩:=h.out;rw[g];exact⟨v,rfl,i,f,j,((dX.later d c).un.trans l).mono (by omega) (by omega)⟩
 ·rw[if_neg (by omega),if_pos e]at g;refine((o.later c).arrive u (by omega) (by omega) (by omega)).mono ?_;rintro e w' ⟨v,rfl,h⟩;obtain⟨i,f,j,l⟩:=h.out;rw[g];exact⟨v,rfl,i,f,j,((dX.later d c).un.trans l).mono (by omega) (by omega)⟩
 ·rw[if_neg (by omega),if_neg (by omega),if_pos e]at g;refine((o.later c).inject u.1 x ⟨(y.1.below c).mono c.size,y.2⟩ A (by omega) (by omega)).mono ?_;rintro e w' ⟨v,rfl,h⟩;obtain⟨i,f,j,l⟩:=h;rw[g];exact⟨v,rfl,i,f,j,((dX.later d c).un.trans l).mono (by omega) (by omega)⟩
 ·rw[if_neg (by omega),if_neg (by omega),if_neg (by omega)]at g;rw[g];exact⟨rfl,d,o.later c,(dX.later d c).un.mono (by omega) (by omega)⟩
end
theorem Hz(y:aw)(A z:Nat)(room E:Int)(w:ag)(m:Int->Int->ap->aw->Nat->Nat->ag->Prop)(q:aw->Nat->Nat->ag->Prop)(R:av->Int->ag->Prop)(x:Hid (am 37 #[ae y A z] w λe w'=>∃y0 y1 y2 ya yl yc,e=.returned (.tuple #[.agg #[ab y0,ab y1,af y2,ae ya yl yc],ab E])/\Hid (m y0 y1 y2 ya yl yc w')))(i:Hid (E=0->(0<=room/\room<=1000)->∀y0 y1 y2 ya yl yc W b,m y0 y1 y2 ya yl yc W->ak W b->am 38 #[.agg #[ab y0,ab y1,af y2,ae ya yl yc]] b λe w'=>∃a l c u,e=.returned (.tuple #[ae a l c,ab u])/\Hid (q a l c w')))(g:Hid (∀y0 y1 y2 ya yl yc W b,m y0 y1 y2 ya yl yc W->ak W b->(E≠0->R (.pointer none) E b)/\(E=0->¬(0<=room/\room<=1000)->R (.pointer none) 1 b)))(j:Hid (∀a l c W,E=0->(0<=room/\room<=1000)->q a l c W->R (aH W.heap.size) 0 (W.alloc (.cells #[ae a l c,ab room,ab 0,.map none,.map none,.map none,ae none 0 0] 74)))):am 18 #[ae y A z,ab room] w λe w'=>∃v u,e=.returned (.tuple #[v,ab u])/\Hid (R v u w'):=by
 go_enter func18,ntmps18;go_wp2_with fail;refine x.mono ?_;rintro e h ⟨y0,y1,y2,ya,yl,yc,rfl,d⟩;clear x;have k:Hid (∀o,ak h (h.alloc o)):=λo=>(aq _ _).alloc (ao _) o;by_cases n:E=0;rotate_left
 ·have f:Hid (∀o,R (.pointer none) E (h.alloc o)):=λo=>(g _ _ _ _ _ _ _ _ d (k o)).1 n;have F:(E==0)=false:=by simpa using n
  clear i g j d;go_wp2_with fail;exact az (v:=.tuple #[.pointer none,ab E]) (by simp[results,results18,go_sem]) rfl ⟨_,_,rfl,f _⟩
 subst n;by_cases p:0<=room/\room<=1000;rotate_left
 ·have f:Hid (∀o,R (.pointer none) 1 (h.alloc o)):=λo=>(g _ _ _ _ _ _ _ _ d (k o)).2 rfl p;clear i g j d;by_cases B:room<0
  ·go_wp2_with fail;exact az (v:=.tuple #[.pointer none,ab 1]) (by simp[results,results18,go_sem]) rfl ⟨_,_,rfl,f _⟩
  ·have C:1000<room:=by omega
   go_wp2_with fail;exact az (v:=.tuple #[.pointer none,ab 1]) (by simp[results,results18,go_sem]) rfl ⟨_,_,rfl,f _⟩
 have s:=au (λb=>i rfl p y0 y1 y2 ya yl yc h b d);have t:=au (λa l c W=>j a l c W rfl p);have B:¬room<0:=by omega
 have C:¬1000<room:=by omega
 clear i j g d;go_wp2_with fail;refine(s _ (k _)).mono ?_;rintro e D ⟨a,l,c,u,rfl,r⟩;have f:=au (t _ _ _ _ r);clear s t r;go_wp2_with fail;exact az (v:=.tuple #[aH D.heap.size,ab 0]) (by simp[results,results18,go_sem]) rfl ⟨_,_,rfl,f⟩
def M1:Sy:=⟨0,[],λ_=> [],λ_=>false,[]⟩
def lE(n:Nat)(l:List (Bh (n+1)))(room:Int):Int:=if lU n l≠0 then lU n l else if 0<=room/\room<=1000 then 0 else 1
def NX(n:Nat)(l:List (Bh (n+1)))(room:Int)(w:ag)(v:av)(u:Int)(w':ag):Prop:=
 u=lE n l room/\ak w w'/\(u≠0->v=.pointer none)/\(u=0->∃(a:ke)(c:fY),v=aH a.b/\bt a M1 c w'/\(c.k=0/\c.es=[]/\c.wn=0/\c.bn=0)/\a.room=room/\a.lo=w.heap.size/\a.n=n+5/\aB (a.n+6) (cd a.n a.prog) (n+6) (cd n l)=true)
theorem Cj(n:Nat)(l:List (Bh (n+1)))(z:aw)(q:Nat)(room:Int)(w:ag)(X:gq (n+1) w.heap.size w z l)(Y:l.length<=q)(Z:q<=maxLen)(I:kF (n+1) l=true->(aC (n+6) (cd n l)).length<=2097152):am 18 #[ae z l.length q,ab room] w λe w'=>∃v u,e=.returned (.tuple #[v,ab u])/\Hid (NX n l room w v u w'):=by
 refine Hz z l.length q room (lU n l) w (λy0 y1 y2 ya yl yc d=>ak w d/\∃f:Tm (n+6),(f.1=(y0,y1,y2)/\f.2.1=(ya,yc)/\f.2.2.length=yl)/\In d.heap.size d (n+6) f/\aB (n+6) f (n+6) (K7 n l)=true)
  (λi h c d=>∃g:List (Bh (n+6)),g.length=h/\(∃B,ak w B/\ak B d)/\(h<=c/\c<=maxLen)/\gq (n+6) d.heap.size d i g/\tI (jX (n+6) λb=>w.heap.size<=b) (λb=>w.heap.size<=b) i g/\lU (n+5) g=0/\aB (n+11) (cd (n+5) g) (n+6) (cd n l)=true) (NX n l room w) ?_ (λj x y0 y1 y2 ya yl yc d r p o=>?_) (λy0 y1 y2 ya yl yc d r p o=>⟨λj=>?_,λj x=>?_⟩) λi h c d j x hF=>?_
 ·refine(K8 n l z q Y Z w.heap.size w X (ao _) I).mono ?_;rintro e w' ⟨f,rfl,A⟩;obtain⟨R,S,ax,T⟩:=A.out;exact⟨f.1.1,f.1.2.1,f.1.2.2,f.2.1.1,f.2.2.length,f.2.1.2,rfl,R,f,⟨rfl,rfl,rfl⟩,S,T⟩
 ·obtain⟨m,f,⟨G,H,Q⟩,E,y⟩:=p;obtain⟨⟨aH,aI,aK⟩,⟨aM,aN⟩,aO⟩:=f;simp only[ew]at G H;obtain⟨rfl,rfl,rfl⟩:=G;obtain⟨rfl,rfl⟩:=H;subst Q;obtain⟨ar,au,av⟩:=Io j y;refine(Be (n+5) (n+6) (ao _) _ r.heap.size r ((E.below o).mono o.size) (fo ar) (ao _)).mono ?_;rintro e w' ⟨g,i,c,rfl,A⟩;obtain⟨ah,aj,al,an,aA,ap⟩:=A;obtain⟨a,ad,af⟩:=ap au;obtain⟨aD,N,O,aE,aG⟩:=av a g ad af;have J:=m.trans (o.mono m.size);have az:=J.size;have h:=cN (ed (n+6)) 2 (pN (n+6)) i;rw[(fy N).2.2,(fy j).2.2]at O;exact⟨i,g.length,c,_,rfl,g,rfl,⟨r,J,ah⟩,aj,al,h.1 _ _ _ (λb a=>by omega) an,N,O⟩
 ·have m:=p.1.trans (o.mono p.1.size);exact⟨by unfold lE;rw[if_pos j],m,λ_=>rfl,λa=>absurd a j⟩
 ·have m:=p.1.trans (o.mono p.1.size);exact⟨by unfold lE;rw[if_neg (by rw[j];decide),if_neg x],m,λ_=>rfl,(λa=>by cases a)⟩
 ·obtain⟨g,rfl,⟨B,F,P⟩,K,D,L,aa,y⟩:=hF;have m:=F.trans (P.mono F.size);have M:=m.size;have s:ak d (d.alloc (.cells #[ae i g.length c,ab room,ab 0,.map none,.map none,.map none,ae none 0 0] 74)):=(aq _ _).alloc (ao _) _;generalize U:d.alloc (.cells #[ae i g.length c,ab room,ab 0,.map none,.map none,.map none,ae none 0 0] 74)=C at s;have t:C.heap[d.heap.size]?=some (.cells #[ae i g.length c,ab room,ab 0,.map none,.map none,.map none,ae none 0 0] 74):=by
   rw[<-U];exact aF _ _
  have ay:=(aJ.1 t).1;refine⟨by unfold lE;rw[if_neg (by rw[j];decide),if_pos x],m.trans (s.mono m.size),λa=>absurd rfl a,λ_=>⟨⟨w.heap.size,d.heap.size,room,n+5,g,i,c⟩,⟨λb=>if b=d.heap.size then -5 else if w.heap.size<=b/\b<d.heap.size then -4 else 0,none,[],none,0,λ_=> [],λ_=>mH,none,0,ae none 0 0,[],0⟩,rfl,?_,⟨rfl,rfl,rfl,rfl⟩,rfl,rfl,rfl,y⟩⟩;have h:=cN (ed (n+6)) 2 (pN (n+6)) i;refine⟨λb a=>?_,t,if_pos rfl,⟨⟨?_,?_⟩,K.1,K.2,aa,?_⟩,ai ⟨rfl,rfl⟩,⟨rfl,List.nodup_nil,by simp[M1],by decide,by decide,by simp[M1]⟩,?_,⟨⟨M,(qG t).1,ai ⟨rfl,rfl,rfl⟩⟩,?_,λ_=>rfl,λ_=>aL _,?_⟩,⟨⟨M,(qG t).2,ai ⟨rfl,rfl⟩⟩,?_,(λb a=>by cases a)⟩,⟨eP _ _ _ _,(λb a=>by cases a)⟩,rfl,(λe V=>by cases V)⟩
  ·have a:(if b=d.heap.size then (-5:Int)else if w.heap.size<=b/\b<d.heap.size then -4 else 0)≠0:=a;show w.heap.size<=b/\b<C.heap.size;split at a
   ·omega
   ·split at a
    ·omega
    ·exact absurd rfl a
  ·exact h.2.2.2.1 _ _ _ _ s.size (h.2.2.1 _ _ _ C _ (λb a=>s.block b a.2) (h.2.1 _ _ _ _ L D) D)
  ·refine h.1 _ _ _ (λb a=>?_) (h.2.1 _ _ _ _ L D);exact(if_neg (by omega)).trans (if_pos ⟨a.1,a.2⟩)
  ·rw[kI _ _ _ _ y];exact I (fy j).1
  ·intro k b a;cases a
  ·intro b a;rcases a with a|a|⟨k,_,a⟩
   ·exact ai a
   ·cases a
   ·cases a
  ·intro k f E;cases E
  ·intro k W;cases W
theorem AR(xs:List av)(g len c:Nat)(w:ag)(v:Hid (xs.length=len*7))(s:Hid (∀u∈xs,u.oneCell'=true))(E:len<=2000000)(x:Hid (∀w1,ak w w1->∀j u,xs[j]?=some u->w1.cell? ((⟨g,0,none⟩:Addr).add j)=some u)):am 55 #[ae (some ⟨g,0,none⟩) len c] w λe w'=>∃q,e=.returned q/\Hid (ak w w'/\w'.ownsRow w.heap.size 54 7 q len xs):=by
 obtain⟨C,i,m,o,p⟩:=bW JQ;have a:=au (⟨i,m,o,p⟩:_/\_/\_/\_);clear i m o p;have F:∀(w:ag)(b:aw)(n c f d:Nat),(binOp .eql 38 (ae b n c) (ae none f d)).run Tryz.prog w=.ok (.bool b.isNone) w:=λw b n c f d=>Lib.run_eql_slice_nil w _ _ b n c f d underlying38;have D:(some (⟨g,0,none⟩:Addr)).isNone=false:=rfl;go_enter func55,ntmps55;go_wp2_with (at_builtin;refine wpList_append_own _ rfl _ _ 38 rfl w.heap.size 54 C _ 7 88 underlying38 a.1 a.2.1 a.2.2.1 a.2.2.2 rfl (by decide) _ _ _ rfl (World.ownsRow_made w #[] 0 (ao _) (aL _) (by simp)) ⟨g,0,none⟩ len c xs rfl ?qc1 ?qc2 ?qc3 ?qc4 ?qc5 ?qc6 ?_)
 case qc1=>exact v
 case qc2=>exact x _ ((aq _ _).alloc (ao _) _)
 case qc3=>exact s
 case qc4=>unfold maxLen;omega
 case qc5=>omega
 case qc6=>simp
 intro r w1 l h A;have t:Hid (ak w w1/\w1.ownsRow w.heap.size 54 7 r len xs):=by
  have y:ak w w1:=Below.grown ((aq _ _).alloc (ao _) _) h (by simp) (by intro k z;simp[Value.ownBlock]at z;omega);have B:w1.ownsRow w.heap.size 54 7 r len xs:=by simpa using l
  exact⟨y,B⟩
 clear l h A;go_wp2_with fail
 go_ret
 exact⟨_,rfl,t⟩
theorem AQ(c:Nat)(w:ag):am 55 #[ae none 0 c] w λe w'=>e=.returned (ae none 0 0)/\w'=w:=by
 have g:∀(w:ag)(a:aw)(n c d b:Nat),(binOp .eql 38 (ae a n c) (ae none d b)).run Tryz.prog w=.ok (.bool a.isNone) w:=λw a n c d b=>Lib.run_eql_slice_nil w _ _ a n c d b underlying38;have f:(none:aw).isNone=true:=rfl;go_enter func55,ntmps55;go_wp2_with fail
 go_ret
 exact⟨rfl,rfl⟩
theorem JG(h:Nat)(q:aw)(L d:Nat)(v x:Nat->Int)(y:Nat->ap)(xa:Nat->aw)(z xc:Nat->Nat)(w:ag)(k:aw->Nat->Nat->ag->Prop)(E:h<w.heap.size)(U:L<=1000000)(V:L<=d)(F:q=none/\L=0/\d=0\/∃g,q=some ⟨g,0,none⟩)(r:Hid (w.cell? ⟨h,6,none⟩=some (ae q L d)))(s:Hid (∀W,ak w W->am 55 #[ae q L d] W λe w'=>∃a c,e=.returned (ae a L c)/\Hid (ak W w'/\k a c 0 w')))(t:Hid (∀a c j W,j<L->k a c j W->∃g,a=some ⟨g,0,none⟩/\W.cell? ⟨g,j*7+3,none⟩=some (ab (v j))/\W.cell? ⟨g,j*7+3+1,none⟩=some (ab (x j))/\W.cell? ⟨g,j*7+3+2,none⟩=some (af (y j))/\W.cell? ⟨g,j*7+3+3,none⟩=some (ae (xa j) (z j) (xc j))/\ Hid (am 56 #[.agg #[ab (v j),ab (x j),af (y j),ae (xa j) (z j) (xc j)]] W λe w'=>∃y0 y1 y2 ya yl yc,e=.returned (.agg #[ab y0,ab y1,af y2,ae ya yl yc])/\Hid ((w'.frozen? ⟨g,j*7+3,none⟩=false/\w'.frozen? ⟨g,j*7+3+1,none⟩=false/\w'.frozen? ⟨g,j*7+3+2,none⟩=false/\w'.frozen? ⟨g,j*7+3+3,none⟩=false)/\(w'.cell? ⟨g,j*7+3,none⟩=some (ab (v j))/\w'.cell? ⟨g,j*7+3+1,none⟩=some (ab (x j))/\w'.cell? ⟨g,j*7+3+2,none⟩=some (af (y j))/\w'.cell? ⟨g,j*7+3+3,none⟩=some (ae (xa j) (z j) (xc j)))/\k a c (j+1) (di w' g (j*7+3) (ab y0) (ab y1) (af y2) (ae ya yl yc)))))):am 29 #[aH h,ab 0] w λe w'=>∃a c,e=.returned (ae a L c)/\Hid (k a c L w'):=by
 have b:Hid (ak w w.drew):=(aq _ _).drew;have i:Hid (∀W,ak w W->W.cell? ⟨h,6,none⟩=some (ae q L d)):=λW C=>(C.cell (p:=⟨h,6,none⟩) E).trans r;have M:=r.out;have aa:¬((L:Int)<0):=by omega
 have ad:(0:Int)<=(L:Int):=by omega
 have ah:(L:Int)<=(d:Int):=by omega
 have ai:¬((d:Int)<(L:Int)):=by omega
 have aj:¬(d<L):=by omega
 have al:min (0:Int) (L:Int)=0:=by omega
 go_enter func29,ntmps29;go_upto_region 1 with fail;rcases F with⟨rfl,rfl,rfl⟩|⟨B,rfl⟩
 ·go_region_held3 (λW=>W.cell? ⟨h,6,none⟩=some (ae none 0 0)) (first|exact i _ b|exact i _ m) ((first
    | (go_at_call 55;refine(s _ b).mono ?_;rintro e G ⟨a,c,rfl,f⟩;have m:=au (b.trans (f.1.mono b.size)))))
  have l:=au f.2;clear s r i b m t f;go_wp2_with fail;go_loopw [6,23] (λ_ o wr=>o=ab 0/\Hid (k a c 0 wr)) (λ_ _ _=>0)
  case atStart=>exact⟨rfl,l⟩
  case round=>
  obtain⟨rfl,n⟩:=hrel;clear l;go_wp2_with fail
  go_ret
  exact⟨a,c,rfl,n⟩
 ·go_region_held3 (λW=>W.cell? ⟨h,6,none⟩=some (ae (some ⟨B,0,none⟩) L d)) (first|exact i _ b|exact i _ m) ((first
    | (go_at_call 55;refine(s _ b).mono ?_;rintro e G ⟨a,c,rfl,f⟩;have m:=au (b.trans (f.1.mono b.size)))))
  clear s r i b m;have l:=au f.2;clear f;go_wp2_with fail;go_loopw [6,23] (λ_ o wr=>∃(j:Nat),j<=L/\o=ab j/\Hid (k a c j wr)) (λ_ o _=>L-(intOf o).toNat)
  case atStart=>exact⟨0,aL _,rfl,l⟩
  case round=>
  obtain⟨j,X,rfl,n⟩:=hrel;by_cases D:j<L
  ·obtain⟨g,rfl,H,I,J,K,A⟩:=t.out a c j wr D n;have Y:(0:Int)<=(j:Int):=by omega
   have Z:(j:Int)<(L:Int):=by omega
   clear t n;go_wp2_with fail;refine A.mono ?_;rintro e an ⟨y0,y1,y2,ya,yl,yc,rfl,u⟩;obtain⟨⟨Q,R,S,T⟩,N,d1,O,P⟩:=(⟨u.1,u.2.1⟩:_/\_);go_wp2_with fail;go_roundw
   case rel=>exact⟨j+1,by omega,by go_num,u.2.2⟩
   case measure=>simp[intOf];omega
  ·obtain rfl:j=L:=by omega
   clear t l;go_wp2_with fail
   go_ret
   exact⟨a,c,rfl,n⟩
theorem C0(G:aw)(I H:Nat)(room:Int)(sa:aw)(sl sc:Nat)(nm s:Nat->ap)(q r:Nat->Int)(xa:Nat->aw)(t xc:Nat->Nat)(w:ag)(x:av->Int->ag->Prop)(l:Nat->Nat->ag->Prop)(R:av->ag->Prop)(Z:sl<=9223372036854775807)(E:Hid (am 18 #[ae G I H,ab room] w λe w'=>∃v u,e=.returned (.tuple #[v,ab u])/\Hid (x v u w')))(h:Hid (∀v u W,x v u W->(u≠0\/4<sl)->R (.pointer none) W))(n:Hid (∀v W,x v 0 W->sl<=4->∃a,v=aH a/\l a 0 W))(k:Hid (∀a j W,j<sl->l a j W->∃g o,(sa=some ⟨g,o,none⟩/\W.cell? ⟨g,o+j*5,none⟩=some (af (nm j))/\W.cell? ⟨g,o+j*5+1,none⟩=some (ab (q j))/\W.cell? ⟨g,o+j*5+2,none⟩=some (ab (r j))/\W.cell? ⟨g,o+j*5+3,none⟩=some (af (s j))/\W.cell? ⟨g,o+j*5+4,none⟩=some (ae (xa j) (t j) (xc j)))/\Hid (∀F,ak W F->am 20 #[aH a,af (nm j),.agg #[ab (q j),ab (r j),af (s j),ae (xa j) (t j) (xc j)]] F λe w'=>∃v u,e=.returned (.tuple #[ab v,ab u])/\Hid (l a (j+1) w'))))(f:Hid (∀a W,l a sl W->R (aH a) W)):am 6 #[ae G I H,ab room,ae sa sl sc] w λe w'=>∃v,e=.returned v/\Hid (R v w'):=by
 go_enter func6,ntmps6;go_wp2_with fail;refine E.mono ?_;rintro e an ⟨v,u,rfl,c⟩;clear E;by_cases z:u=0;rotate_left
 ·have i:=au (h _ _ _ c (ai z));have aa:(u==0)=false:=by simpa using z
  clear h n k f c;go_wp2_with fail
  go_ret
  exact⟨_,rfl,i⟩
 subst z;by_cases Q:sl<=4;rotate_left
 ·have i:=au (h _ _ _ c (aj (by omega)));have S:(4:Int)<(sl:Int):=by omega
  clear h n k f c;go_wp2_with fail
  go_ret
  exact⟨_,rfl,i⟩
 obtain⟨a,rfl,y⟩:=n.out _ _ c Q;have C:=au y;have S:¬(4:Int)<(sl:Int):=by omega
 clear h n c y;go_wp2_with fail;go_loopw [10,26] (λ_ B wr=>∃(j:Nat),j<=sl/\B=ab j/\Hid (l a j wr)) (λ_ B _=>sl-(intOf B).toNat)
 case atStart=>exact⟨0,aL _,rfl,C⟩
 case round=>
 clear C;obtain⟨j,y,rfl,p⟩:=hrel;by_cases T:j<sl
 ·obtain⟨g,o,⟨rfl,L,M,N,O,P⟩,D⟩:=k.out a j _ T p;have ad:(0:Int)<=(j:Int):=by omega
  have al:(j:Int)<(sl:Int):=by omega
  clear k f p;go_upto_region 7 with fail;generalize A:World.alloc _ _=b;have d:b.heap[wr.heap.size]?=some (.cells #[af (nm j),ab (q j),ab (r j),af (s j),ae (xa j) (t j) (xc j)] 64):=by
   rw[<-A];exact aF _ _
  have K:=au (D b (by rw[<-A];exact(aq _ _).alloc (ao _) _));generalize wr.heap.size=m at*;have U:b.cell? ⟨m,0,none⟩=some (af (nm j)):=ah d 0;have d1:b.cell? ⟨m,1,none⟩=some (ab (q j)):=ah d 1;have V:b.cell? ⟨m,2,none⟩=some (ab (r j)):=ah d 2;have X:b.cell? ⟨m,3,none⟩=some (af (s j)):=ah d 3;have Y:b.cell? ⟨m,4,none⟩=some (ae (xa j) (t j) (xc j)):=ah d 4;clear A d D L M N O P;go_wp2_with fail;refine K.mono ?_;rintro e ar ⟨v,u,rfl,J⟩;go_wp2_with fail;go_roundw
  case rel=>exact⟨j+1,by omega,by go_num,J⟩
  case measure=>simp[intOf];omega
 ·obtain rfl:j=sl:=by omega
  have i:=au (f _ _ p);clear k f p;go_wp2_with fail
  go_ret
  exact⟨_,rfl,i⟩
theorem mA{P:Sy->Prop}{a:Type}(f:Sy->a->Sy):(l:List a)->(∀s,∀x∈l,P s->P (f s x))->{s:Sy}->P s->P (l.foldl f s)
 | [],_,_,h=>h
 | x::l,hf,s,h=>mA f l (λs y b=>hf s y (bR _ b)) (hf s x (by simp) h)
variable{c k m n:Nat}{s:Sy}{nm:ap}{q:List (Tm c)}
theorem Og{k:Int}{v:ap×Tc×List Tc}(a:s.get k=some v):∃q∈s.ps,q.2=v:=by
 unfold Sy.get at a;obtain⟨q,b,rfl⟩:=cw.1 a;exact⟨q,List.mem_of_find?_eq_some b,rfl⟩
def pK(s:Sy):Prop:=∀q∈s.ps,q.2.1.size<=8
theorem pK.get(b:pK s){k:Int}{r:Tc×List Tc}(c:s.get k=some (nm,r)):nm.size<=8:=by
 obtain⟨e,d,a⟩:=Og c;have:=b e d;rw[a]at this;exact this
theorem pK.add{s:Sy}(c:pK s)(a:Int){nm:ap}(d:nm.size<=8)(cs:Tc):pK (s.add a nm cs):=λq e=>by
 rcases dr.1 e with b|b
 ·exact c q b
 ·rw[dS.1 b];exact d
theorem pK.drop{s:Sy}(a:pK s)(x how:Int):pK (s.drop x how):=λq b=>a q (List.mem_of_mem_eraseP b)
theorem pK.fin{s:Sy}(a:pK s)(x how:Int):pK (s.fin x how):=mA (λ(s:Sy)(y:Int)=>s.drop y 4) _ (λ_ y _ k=>k.drop y 4) (a.drop x how:)
theorem pK.put{s:Sy}(a:pK s)(k:Int){v:ap×Tc×List Tc}(d:v.1.size<=8):pK (s.put k v):=λq b=>by
 obtain⟨r,c,rfl⟩:=cm.1 b;split
 ·exact d
 ·exact a r c
theorem pK.deliver{s:Sy}(c:pK s)(room a b:Int)(t:Tc):pK (s.deliver room a b t):=by
 unfold Sy.deliver;split
 ·exact c
 ·split
  ·exact c
  ·split
   ·exact c.fin _ _
   ·split
    ·exact c.put _ (c.get ‹_›)
    ·exact c
theorem xG{x:Tm k}{room:Int}(a:gg k x room nm=0):nm.size<=8:=by
 unfold gg at a;split at a
 ·cases a
 ·rename_i b;simp only[dV,qP,Bool.not_eq_false,aK,co]at b;omega
theorem pK.follow{s:Sy}(d:pK s)(a:Int)(b:Tk)(e:∀x∈b.spawns,x.2.1.size<=8):pK (s.follow a b):=by
 have c:=mA (P:=pK) (λ(s:Sy)(x:Int)=>s.link a x) b.links (λs x _ k=>by unfold Sy.link;split<;>exact k) (mA (P:=pK) (λ(s:Sy)(x:Int×Tc)=>s.send a x.1 x.2) b.sends (λs x _ k=>by unfold Sy.send;split<;>exact k) (mA (P:=pK) (λ(s:Sy)(x:Int×ap×Tc)=>s.add a x.2.1 x.2.2) b.spawns (λ_ x f k=>k.add a (e x f) x.2.2) d));unfold Sy.follow;simp only;split
 ·exact c.fin a 1
 ·exact c
theorem pK.do{n:Nat}{prog:List (Bh (n+1))}{room:Int}{s:Sy}(c:pK s)(j a b:Int)(k:Nat)(x:Tm k):pK (s.do n prog room j a b k x).1:=by
 unfold Sy.do;split
 ·unfold Sy.run;split
  ·exact c
  ·rename_i g o m h;split
   ·split
    ·exact c
    ·rename_i d _;have e:pK ((s.put a (g,d.state,d.mail)).tell om a 0 d.message):=c.put a (v:=(g,d.state,d.mail)) (c.get h);simp only;split
     ·exact e.fin _ _
     ·split
      ·exact e.fin _ _
      ·rename_i f;simp only[Sy.made,aK,Bool.not_eq_false,cu,cF]at f;exact e.follow a d λx i=>xG (f.2 x i).2
   ·exact c
 ·split
  ·unfold Sy.arrive;split
   ·exact c
   ·rename_i l _;simp only;split
    ·exact pK.deliver (s:={s with ways:=iN s.ways (a,b) l}) c _ _ _ _
    ·exact c
  ·split
   ·unfold Sy.inject;split
    ·exact c
    ·split
     ·exact c
     ·split
      ·exact c
      ·exact c.deliver _ _ _ _
   ·exact c
theorem pK.start{n:Nat}{prog:List (Bh (n+1))}{room:Int}{s:Sy}(a:pK s)(nm:ap)(k:Nat)(x:Tm k):pK (s.start n prog room nm k x).1:=by
 unfold Sy.start;split
 ·exact a
 ·split
  ·exact a
  ·split
   ·exact a
   ·exact a.add 0 (xG (Decidable.not_not.1 ‹_›)) _
theorem sE{p:List (Tm n)}(d:aG (λa b=>aB n a c b) p q=true)(s:ap)(k:Nat):ud n p s k=ud c q s k:=by
 unfold ud;rw[cP _ _ _ d];cases p with
 | nil=>
  cases q with
  | nil=>rfl
  | cons b q=>simp[aG]at d
 | cons a p=>
  cases q with
  | nil=>simp[aG]at d
  | cons b q=>
   simp only[aG,aK]at d;have e:(gu n a).1=(gu c b).1:=by
    cases n with
    | zero=>exact absurd d.1 (by simp[aB])
    | succ n=>
     cases c with
     | zero=>exact absurd d.1 (by simp[aB])
     | succ c=>exact(bL d.1).1
   simp only[cW,(lk _ _ _ _ d.1).1,e]
theorem re{p:List (Tm n)}(f:aG (λa b=>aB n a c b) p q=true)(i:Nat):(p[i]?=none/\q[i]?=none)\/∃a b,p[i]?=some a/\q[i]?=some b/\aB n a c b=true/\a∈p/\b∈q:=by
 have h:=cP _ _ _ f;by_cases g:i<p.length
 ·have d:=aM g;have e:=aM (show i<q.length by omega);exact aj ⟨_,_,d,e,jF _ _ _ f _ _ _ d e,aN d,aN e⟩
 ·exact ai ⟨eN (by omega),eN (by omega)⟩
theorem Az{n i N M:Nat}(f:Tm n->Option (Tm N))(g:Tm i->Option (Tm M)):(p:List (Tm n))->(q:List (Tm i))->aG (λa b=>aB n a i b) p q=true->(∀a∈p,∀b∈q,aB n a i b=true->fK N M (f a) (g b))->fK (N+1) (M+1) ((cQ f p).map (dl N)) ((cQ g q).map (dl M))/\((cQ f p=none/\cQ g q=none)\/∃l r,cQ f p=some l/\cQ g q=some r/\aG (λa b=>aB N a M b) l r=true)
 | [],[],_,_=>⟨by simp[cQ,fK,aB,dl,aG],aj ⟨[],[],rfl,rfl,rfl⟩⟩
 | [],_::_,h,_=>by simp[aG]at h
 | _::_,[],h,_=>by simp[aG]at h
 | a::p,b::q,d,h=>by
  simp only[aG,aK]at d;have c:=h a (by simp) b (by simp) d.1;have o:=(Az f g p q d.2 λx s y t=>h x (by simp[s]) y (by simp[t])).2;simp only[cQ];cases e1:f a with
  | none=>
   rw[e1]at c;cases e:g b with
   | none=>simp[fK]
   | some _=>rw[e]at c;exact c.elim
  | some u=>
   rw[e1]at c;cases e:g b with
   | none=>rw[e]at c;exact c.elim
   | some v=>
    rw[e]at c;have d:aB N u M v=true:=c;rcases o with⟨j,k⟩|⟨l,r,j,k,m⟩
    ·rw[j,k];simp[fK]
    ·rw[j,k];exact⟨by simp[fK,aB,dl,aG,d,m],aj ⟨u::l,v::r,rfl,rfl,by simp[aG,d,m]⟩⟩
theorem Ak(m:Nat)(b:List (Tm m))(i:Nat)(k:List (Tm i))(self:Int)(w:aG (λx y=>aB m x i y) b k=true)(A:∀y∈b,aI ⟨m,y⟩)(B:∀y∈k,aI ⟨i,y⟩):(n:Nat)->(x:Tm n)->(d:Nat)->(x':Tm d)->aI ⟨n,x⟩->aI ⟨d,x'⟩->aB n x d x'=true->fK (m+n) (i+d) (vl m b self n x) (vl i k self d x')
 | 0,_,_,_,_,_,h=>by simp[aB]at h
 | _+1,_,0,_,_,_,h=>by simp[aB]at h
 | n+1,x,d+1,x',hx,hx',h=>by
  obtain⟨I,j⟩:=bL h;unfold vl;rw[<-I];by_cases s:x.1.1=5
  ·rw[if_pos s,if_pos s];rcases re w x.1.2.1.toNat with⟨e,f⟩|⟨y,G,e,f,D,p,q⟩
   ·rw[e,f];trivial
   ·rw[e,f];simp only[dG];rw[<-(lk _ _ _ _ D).1];by_cases g:b8 ⟨m,y⟩=6
    ·rw[if_pos g,if_pos g];trivial
    ·rw[if_neg g,if_neg g];exact iX (by omega) (by omega) (A y p) (B _ q) D
  ·rw[if_neg s,if_neg s];by_cases g:x.1.1=6
   ·rw[if_pos g,if_pos g];trivial
   ·rw[if_neg g,if_neg g];by_cases r:x.1.1=4
    ·rw[if_pos r,if_pos r,<-sE j,<-sE j,<-sE j];by_cases C:ud n x.2.2 p8 0=true
     ·rw[if_pos C,if_pos C];simp[fK,aB,bT,aG]
     ·rw[if_neg C,if_neg C];by_cases t:ud n x.2.2 wC 2=true
      ·rw[if_pos t,if_pos t];rcases re j 1 with⟨e,f⟩|⟨a,o,e,f,l,p,q⟩
       ·rw[e,f];trivial
       ·rcases re j 2 with⟨E,F⟩|⟨c,H,E,F,L,N,O⟩
        ·rw[e,f,E,F];trivial
        ·rw[e,f,E,F];simp only[dG];exact nI (Ak m b i k self w A B n a d o (bf n x a hx p) (bf d x' o hx' q) l) λu v J=>nI (Ak m b i k self w A B n c d H (bf n x c hx N) (bf d x' H hx' O) L) λP Q K=>ym J K
      ·rw[if_neg t,if_neg t];by_cases z:ud n x.2.2 CG 1=true
       ·rw[if_pos z,if_pos z];rcases re j 1 with⟨e,f⟩|⟨a,o,e,f,l,p,q⟩
        ·rw[e,f];trivial
        ·rw[e,f];simp only[dG,cM _ _ _ _ l];cases aS d o
         ·simp[fK]
         ·exact iX (by omega) (by omega) (bf n x a hx p) (bf d x' o hx' q) l
       ·rw[if_neg z,if_neg z];exact(Az _ _ x.2.2 x'.2.2 j λy D G M l=>Ak m b i k self w A B n y d G (bf n x y hx D) (bf d x' G hx' M) l).1
    ·rw[if_neg r,if_neg r];exact iX (by omega) (by omega) hx hx' h
theorem FK{B:List Tc}(b:∀y∈B,aI ⟨13,y⟩)(self:Int){x:Tm n}{x':Tm c}(g:aI ⟨n,x⟩)(h:aI ⟨c,x'⟩)(e:aB n x c x'=true):sT B self n x=sT B self c x':=by
 have f:aG (λx y=>aB 13 x 13 y) B B=true:=je _ _ λy i=>fH 13 y (b y i);have k:=Ak 13 B 13 B self f b b n x c x' g h e;unfold sT;cases e1:vl 13 B self n x with
 | none=>
  rw[e1]at k;cases a:vl 13 B self c x' with
  | none=>rfl
  | some _=>rw[a]at k;exact k.elim
 | some j=>
  rw[e1]at k;cases a:vl 13 B self c x' with
  | none=>rw[a]at k;exact k.elim
  | some l=>
   rw[a]at k;have d:aB (13+n) j (13+c) l=true:=k;simp only[dG];rw[bV d,io d]
def PD(k:Nat)(d:Dg):Prop:=(∀y∈d.b,aI ⟨13,y⟩)/\1<=d.next/\d.next+k<=100
theorem tA(a:Ac (n+1)):(a.1=1/\(cq n a).2.2=[bq mR n,a.2.1.1,a.2.1.2])\/(a.1=2/\(cq n a).2.2=[bq jj n,bq a.2.2.1 n,a.2.1.2,bT 5 a.2.2.2 n])\/(a.1=3/\(cq n a).2.2=[bq mQ n,a.2.1.1])\/((a.1≠1/\a.1≠2/\a.1≠3)/\(cq n a).2.2=[bq lW n]):=by
 unfold cq;by_cases b:a.1=1
 ·exact ai ⟨b,by rw[if_pos b];rfl⟩
 ·by_cases c:a.1=2
  ·exact aj (ai ⟨c,by rw[if_neg b,if_pos c];rfl⟩)
  ·by_cases d:a.1=3
   ·exact aj (aj (ai ⟨d,by rw[if_neg b,if_neg c,if_pos d];rfl⟩))
   ·exact aj (aj (aj ⟨⟨b,c,d⟩,by rw[if_neg b,if_neg c,if_neg d];rfl⟩))
theorem Hj{u:Int}(c:1<=u/\u<=99):aI ⟨13,DY u⟩:=by
 intro b a;have a:b∈[(((3,u,.empty),(none,0,0)):Nd)]:=a;obtain rfl:=dS.1 a;simp[cJ,qP,c]
theorem Jv{a:Ac (n+1)}{b:Ac (m+1)}(c:aB (n+2) (cq n a) (m+2) (cq m b)=true)(w:aI ⟨n+2,cq n a⟩)(y:aI ⟨m+2,cq m b⟩)(self:Int){d:Dg}(z:PD (k+1) d):rz self a d=rz self b d/\∀h,rz self a d=some h->PD k h:=by
 obtain⟨_,e⟩:=bL c;have F:=λl j=>bf (n+1) (cq n a) l w j;have G:=λl j=>bf (m+1) (cq m b) l y j;have v:=cP _ _ _ e;obtain⟨d1,q,I⟩:=z;have i:∀{x:Tm (n+1)}{x':Tm (m+1)},x∈(cq n a).2.2->x'∈(cq m b).2.2->aB (n+1) x (m+1) x'=true->sT d.b self (n+1) x=sT d.b self (m+1) x':=λA B C=>FK d1 self (F _ A) (G _ B) C;rcases tA a with⟨f,o⟩|⟨f,o⟩|⟨f,o⟩|⟨f,o⟩<;>rcases tA b with⟨g,p⟩|⟨g,p⟩|⟨g,p⟩|⟨g,p⟩<;>rw[o,p]at v e i
 case inl.inl=>
  simp only[aG,aK,and_true]at e;have r:=i (x:=a.2.1.1) (x':=b.2.1.1) (by simp) (by simp) e.2.1;have s:=i (x:=a.2.1.2) (x':=b.2.1.2) (by simp) (by simp) e.2.2;unfold rz;rw[if_pos f,if_pos g,s];unfold nF;rw[r];refine⟨rfl,λh c=>?_⟩;obtain⟨H,_,c⟩:=bC.1 c;obtain⟨t,_,rfl⟩:=cw.1 c;exact⟨d1,q,by simp only;omega⟩
 case inr.inl.inr.inl=>
  simp only[aG,aK,and_true]at e;have s:=i (x:=a.2.1.2) (x':=b.2.1.2) (by simp) (by simp) e.2.2.1;have D:a.2.2.1=b.2.2.1:=by
   have:=(bL e.2.1).1;simpa [bq]using this
  have E:a.2.2.2=b.2.2.2:=by
   have:=(bL e.2.2.2).1;simpa [bT]using this
  unfold rz;rw[if_neg (show¬a.1=1 by omega),if_neg (show¬b.1=1 by omega),if_pos f,if_pos g,s,D,E];refine⟨rfl,λh c=>?_⟩;obtain⟨t,_,c⟩:=bC.1 c;split at c
  ·obtain rfl:=aA c;refine⟨λl j=>?_,by simp only;omega,by simp only;omega⟩;rcases sY j with u|u
   ·exact d1 l u
   ·rw[u];exact Hj (by omega)
  ·cases c
 case inr.inr.inl.inr.inr.inl=>
  simp only[aG,aK,and_true]at e;have r:=i (x:=a.2.1.1) (x':=b.2.1.1) (by simp) (by simp) e.2;unfold rz;rw[if_neg (show¬a.1=1 by omega),if_neg (show¬b.1=1 by omega),if_neg (show¬a.1=2 by omega),if_neg (show¬b.1=2 by omega),if_pos f,if_pos g];unfold nF;rw[r];refine⟨rfl,λh c=>?_⟩;obtain⟨H,_,rfl⟩:=cw.1 c;exact⟨d1,q,by simp only;omega⟩
 case inr.inr.inr.inr.inr.inr=>
  unfold rz;rw[if_neg f.1,if_neg g.1,if_neg f.2.1,if_neg g.2.1,if_neg f.2.2,if_neg g.2.2];refine⟨rfl,λh c=>?_⟩;obtain rfl:=aA c;exact⟨d1,q,by simp only;omega⟩
 all_goals exact absurd v (by simp)
theorem A0{n m:Nat}(self:Int):(l:List (Ac (n+1)))->(r:List (Ac (m+1)))->aG (λx y=>aB (n+2) x (m+2) y) (l.map (cq n)) (r.map (cq m))=true->(∀a∈l,aI ⟨n+2,cq n a⟩)->(∀b∈r,aI ⟨m+2,cq m b⟩)->∀{d:Dg},PD l.length d->qq self l d=qq self r d/\∀f,qq self l d=some f->∀y∈f.b,aI ⟨13,y⟩
 | [],[],_,_,_,d,hd=>⟨rfl,λf c=>by obtain rfl:=aA c;exact hd.1⟩
 | [],_::_,c,_,_,_,_=>by simp[aG]at c
 | _::_,[],c,_,_,_,_=>by simp[aG]at c
 | a::l,b::r,c,ha,hb,d,hd=>by
  simp only[aU,aG,aK]at c;obtain⟨h,i⟩:=Jv c.1 (ha a (by simp)) (hb b (by simp)) self hd;unfold qq;rw[<-h];cases e:rz self a d with
  | none=>exact⟨rfl,λ_ c=>by cases c⟩
  | some f=>exact A0 self l r c.2 (λx g=>ha x (by simp[g])) (λx g=>hb x (by simp[g])) (i f e)
def OR{n m:Nat}(c:Cl (n+1))(a:Cl (m+1)):Prop:=(aB (n+1) c.1.1 (m+1) a.1.1=true/\aB (n+1) c.1.2.1 (m+1) a.1.2.1=true/\aB (n+1) c.1.2.2 (m+1) a.1.2.2=true)/\aG (λx y=>aB (n+2) x (m+2) y) (c.2.2.map (cq n)) (a.2.2.map (cq m))=true
theorem oH{x:Tm (n+1)}{y:Tm (m+1)}(b:bE (n+1) x=0)(c:bE (m+1) y=0)(a:aB (n+3) (aY (n+3) (n+1) x) (m+3) (aY (m+3) (m+1) y)=true):aB (n+1) x (m+1) y=true:=
 bM _ _ _ _ _ _ (dB _ _ _ _ (fG (n+3) (n+1) (by omega) x (aT.2 (bG.1 b).1))) (bM _ _ _ _ _ _ a (fG (m+3) (m+1) (by omega) y (aT.2 (bG.1 c).1)))
theorem LZ{c:Cl (n+1)}{a:Cl (m+1)}(f:aB (n+4) (dJ n c) (m+4) (dJ m a)=true)(b:qe c)(d:qe a):OR c a:=by
 obtain⟨_,e⟩:=bL f;simp only[dJ,dl,aG,aK,and_true]at e;obtain⟨_,g,h,i,j⟩:=e;exact⟨⟨oH b.1 d.1 g,oH b.2.1 d.2.1 h,oH b.2.2.1 d.2.2.1 j⟩,(bL i).2⟩
theorem LO:nw.length=4/\∀y∈nw,CV y:=by
 refine⟨rfl,λy a=>?_⟩;simp only[nw,nX,cm]at a;obtain⟨c,b,rfl⟩:=a;rw[List.eq_of_mem_replicate b];exact⟨by kernel_rfl,ai rfl⟩
theorem Gq{c:Cl (n+1)}{e:Cl (m+1)}(f:OR c e){s t:Tc}(j:bE 13 s=0/\aS 13 s=true)(k:bE 13 t=0/\aS 13 t=true):lH c s t=lH e s t/\∀b,lH c s t=some b->∀y∈b,aI ⟨13,y⟩:=by
 have r:aB 13 s 13 s=true:=fH _ _ (aT.2 (bG.1 j.1).1);have u:aB 13 t 13 t=true:=fH _ _ (aT.2 (bG.1 k.1).1);have a:=mx _ c.1.1 13 s _ e.1.1 13 s nw nw f.1.1 r uB;unfold lH;cases e1:ij (n+1) c.1.1 13 s nw with
 | none=>
  rw[e1]at a;cases g:ij (m+1) e.1.1 13 s nw with
  | none=>exact⟨rfl,λ_ f=>by cases f⟩
  | some _=>rw[g]at a;exact a.elim
 | some b=>
  rw[e1]at a;cases g:ij (m+1) e.1.1 13 s nw with
  | none=>rw[g]at a;exact a.elim
  | some i=>
   rw[g]at a;have q:=lh CV oB _ c.1.1 13 s ⟨j.1,aj j.2⟩ _ _ LO e1;have d:=mx _ c.1.2.1 13 t _ e.1.2.1 13 t b i f.1.2.1 u a;simp only[dG];cases e3:ij (n+1) c.1.2.1 13 t b with
   | none=>
    rw[e3]at d;cases h:ij (m+1) e.1.2.1 13 t i with
    | none=>exact⟨rfl,λ_ f=>by cases f⟩
    | some _=>rw[h]at d;exact d.elim
   | some x=>
    rw[e3]at d;cases h:ij (m+1) e.1.2.1 13 t i with
    | none=>rw[h]at d;exact d.elim
    | some z=>
     rw[h]at d;refine⟨by simp only[ni];rw[Jk d],λw l y o=>?_⟩;obtain rfl:=aA l;obtain⟨v,p,rfl⟩:=cm.1 o;exact aT.2 (bG.1 (og ((lh CV oB _ c.1.2.1 13 t ⟨k.1,aj k.2⟩ _ _ q e3).2 v p).1)).1
theorem sq{n m:Nat}(name:ap):(l:List (Bh (n+1)))->(r:List (Bh (m+1)))->aG (λx y=>aB (n+5) x (m+5) y) (l.map (dR n)) (r.map (dR m))=true->(gj (n+1) name l=none/\gj (m+1) name r=none)\/∃b a,gj (n+1) name l=some b/\gj (m+1) name r=some a/\aG (λx y=>aB (n+4) x (m+4) y) (b.2.2.map (dJ n)) (a.2.2.map (dJ m))=true/\b∈l/\a∈r
 | [],[],_=>ai ⟨rfl,rfl⟩
 | [],_::_,h=>by simp[aG]at h
 | _::_,[],h=>by simp[aG]at h
 | b::l,a::r,h=>by
  simp only[aU,aG,aK]at h;obtain⟨_,f⟩:=bL h.1;simp only[dR,dl,aG,aK]at f;have e:b.1=a.1:=by
   have:=(bL f.2.1).1;simpa [bq]using this
  unfold gj;rw[e];by_cases d:a.1=name
  ·rw[if_pos d,if_pos d];exact aj ⟨b,a,rfl,rfl,f.2.2,by simp,by simp⟩
  ·rw[if_neg d,if_neg d];rcases sq name l r h.2 with k|⟨c,g,i,j,o,p,q⟩
   ·exact ai k
   ·exact aj ⟨c,g,i,j,o,by simp[p],by simp[q]⟩
theorem xk{n m:Nat}{s t:Tc}(o:bE 13 s=0/\aS 13 s=true)(p:bE 13 t=0/\aS 13 t=true):(l:List (Cl (n+1)))->(r:List (Cl (m+1)))->aG (λx y=>aB (n+4) x (m+4) y) (l.map (dJ n)) (r.map (dJ m))=true->(∀c∈l,qe c)->(∀c∈r,qe c)->(mr s t l=none/\mr s t r=none)\/∃c a b,mr s t l=some (c,b)/\mr s t r=some (a,b)/\OR c a/\(c∈l/\a∈r)/\∀y∈b,aI ⟨13,y⟩
 | [],[],_,_,_=>ai ⟨rfl,rfl⟩
 | [],_::_,h,_,_=>by simp[aG]at h
 | _::_,[],h,_,_=>by simp[aG]at h
 | c::l,a::r,h,hl,hr=>by
  simp only[aU,aG,aK]at h;have j:=LZ h.1 (hl c (by simp)) (hr a (by simp));obtain⟨g,i⟩:=Gq j o p;unfold mr;rw[<-g];cases e:lH c s t with
  | some b=>exact aj ⟨c,a,b,rfl,rfl,j,⟨by simp,by simp⟩,i b e⟩
  | none=>
   rcases xk o p l r h.2 (λx f=>hl x (by simp[f])) (λx f=>hr x (by simp[f]))with k|⟨d,u,b,g,i,v,q,w⟩
   ·exact ai k
   ·exact aj ⟨d,u,b,g,i,v,⟨by simp[q.1],by simp[q.2]⟩,w⟩
theorem uI{n m:Nat}{s:Tc}(k:bE 13 s=0/\aS 13 s=true){l:List (Cl (n+1))}{r:List (Cl (m+1))}(f:aG (λx y=>aB (n+4) x (m+4) y) (l.map (dJ n)) (r.map (dJ m))=true)(g:∀c∈l,qe c)(h:∀c∈r,qe c):(ms:List Tc)->(∀t∈ms,bE 13 t=0/\aS 13 t=true)->(i:Nat)->(sw l s ms i=none/\sw r s ms i=none)\/∃j c a b,sw l s ms i=some (j,c,b)/\sw r s ms i=some (j,a,b)/\OR c a/\(c∈l/\a∈r)/\∀y∈b,aI ⟨13,y⟩
 | [],_,_=>ai ⟨rfl,rfl⟩
 | t::ms,ht,i=>by
  unfold sw;rcases xk k (ht t (by simp)) l r f g h with⟨d,e⟩|⟨c,a,b,d,e,p⟩
  ·rw[d,e];exact uI k f g h ms (λx o=>ht x (by simp[o])) (i+1)
  ·rw[d,e];exact aj ⟨i,c,a,b,rfl,rfl,p⟩
theorem FR{c:Cl (n+1)}(d:bE (n+3) (dl (n+2) (c.2.2.map (cq n)))=0):∀a∈c.2.2,aI ⟨n+2,cq n a⟩:=λa b=>aT.2 (bG.1 (fQ d (by simp only[dl];exact kQ b))).1
theorem Gw{c:Cl (n+1)}{f:Cl (m+1)}(h:OR c f)(g:qe c/\∀a∈c.2.2,aI ⟨n+2,cq n a⟩)(i:qe f/\∀a∈f.2.2,aI ⟨m+2,cq m a⟩)(room self next:Int)(k:1<=next/\next<=92)(s t:Tc)(ms:List Tc){b:List Tc}(j:∀y∈b,aI ⟨13,y⟩):fx room self next s t ms c b=fx room self next s t ms f b:=by
 have p:=g.1.2.2.2.1;obtain⟨l,o⟩:=A0 self c.2.2 f.2.2 h.2 g.2 i.2 (d:=⟨b,next,[],[],[],false⟩) ⟨j,k.1,by simp only;omega⟩;unfold fx;rw[<-l];cases e:qq self c.2.2 ⟨b,next,[],[],[],false⟩with
 | none=>rfl
 | some d=>
  have:=FK (o d e) self (aT.2 (bG.1 g.1.2.2.1).1) (aT.2 (bG.1 i.1.2.2.1).1) h.1.2.2;simp only[this]
theorem xQ{p:List (Bh (n+1))}(d:lU n p=0):∀b∈p,∀c∈b.2.2,qe c/\∀a∈c.2.2,aI ⟨n+2,cq n a⟩:=λb e c f=>by
 have g:=(fy d).2.1;have h:bE (n+5) (dR n b)=0:=fQ g (by simp only[cd,dl];exact bR _ (kQ e));have i:bE (n+4) (dJ n c)=0:=fQ h (by simp only[dR,dl];exact bR _ (bR _ (kQ f)));exact⟨((Fx d).2 b e).2 c f,FR (uG i 3 rfl)⟩
theorem wh{P:List (Bh (n+1))}{Q:List (Bh (m+1))}(b:aB (n+6) (cd n P) (m+6) (cd m Q)=true):aG (λx y=>aB (n+5) x (m+5) y) (P.map (dR n)) (Q.map (dR m))=true:=by
 obtain⟨_,a⟩:=bL b;simp only[cd,dl,aG,aK]at a;exact a.2
theorem vi{P:List (Bh (n+1))}{Q:List (Bh (m+1))}(d:aB (n+6) (cd n P) (m+6) (cd m Q)=true)(nm:ap):lu n P nm=lu m Q nm:=by
 unfold lu;rcases sq nm P Q (wh d)with⟨a,c⟩|⟨b,e,a,c,_⟩<;>rw[a,c]<;>rfl
theorem Ic{P:List (Bh (n+1))}{Q:List (Bh (m+1))}(y:aB (n+6) (cd n P) (m+6) (cd m Q)=true)(z:lU n P=0)(A:lU m Q=0)(room:Int)(nm:ap)(self next:Int)(B:1<=next/\next<=92){s:Tc}(w:bE 13 s=0/\aS 13 s=true){ms:List Tc}(v:∀t∈ms,bE 13 t=0/\aS 13 t=true):nJ room P nm self next s ms=nJ room Q nm self next s ms:=by
 have p:=xQ z;have q:=xQ A;have key:(sw (gt nm P) s ms 0=none/\sw (gt nm Q) s ms 0=none)\/∃f c a b,sw (gt nm P) s ms 0=some (f,c,b)/\sw (gt nm Q) s ms 0=some (f,a,b)/\OR c a/\((qe c/\∀i∈c.2.2,aI ⟨n+2,cq n i⟩)/\qe a/\∀i∈a.2.2,aI ⟨m+2,cq m i⟩)/\∀H∈b,aI ⟨13,H⟩:=by
  unfold gt;rcases sq nm P Q (wh y)with⟨d,e⟩|⟨b,u,d,e,o,g,h⟩
  ·rw[d,e];rcases uI w (l:=([]:List (Cl (n+1)))) (r:=([]:List (Cl (m+1)))) rfl (by simp) (by simp) ms v 0 with k|⟨_,_,_,_,_,_,_,k,_⟩
   ·exact ai k
   ·cases k.1
  ·rw[d,e];rcases uI w o (λc j=>(p b g c j).1) (λc j=>(q u h c j).1) ms v 0 with k|⟨f,c,a,G,C,D,E,x,F⟩
   ·exact ai k
   ·exact aj ⟨f,c,a,G,C,D,E,⟨p b g c x.1,q u h a x.2⟩,F⟩
 unfold nJ;rcases key with⟨d,e⟩|⟨f,c,a,b,d,e,o,g,h⟩
 ·rw[d,e];rfl
 ·rw[d,e];simp only[dG];congr 1;funext t;exact Gw o g.1 g.2 room self next B s t _ h
theorem E5{P:List (Bh (n+1))}{Q:List (Bh (m+1))}(d:aB (n+6) (cd n P) (m+6) (cd m Q)=true)(f:lU n P=0)(g:lU m Q=0)(q:∀a nm cs c,s.get a=some (nm,cs,c)->(bE 13 cs=0/\aS 13 cs=true)/\∀t∈c,bE 13 t=0/\aS 13 t=true)(v:0<=s.last/\s.last<=90)(room i a b:Int)(k:Nat)(x:Tm k):s.do n P room i a b k x=s.do m Q room i a b k x:=by
 have p:lu n P=lu m Q:=funext λnm=>vi d nm;have r:s.run n P room a=s.run m Q room a:=by
  unfold Sy.run;cases e:s.get a with
  | none=>rfl
  | some u=>
   obtain⟨nm,cs,c⟩:=u;obtain⟨j,l⟩:=q a nm cs c e;have h:=Ic d f g room nm a (s.last+1) ⟨by omega,by omega⟩ j l;have o:rV n room P nm a (s.last+1) cs c=rV m room Q nm a (s.last+1) cs c:=by
    unfold rV;rw[h,f,g]
   simp only[o,h,Sy.made,p];split
   ·cases nJ room Q nm a (s.last+1) cs c<;>rfl
   ·rfl
 unfold Sy.do;rw[r]
theorem vY{P:List (Bh (n+1))}{Q:List (Bh (m+1))}(a:aB (n+6) (cd n P) (m+6) (cd m Q)=true)(s:Sy)(room:Int)(nm:ap)(k:Nat)(x:Tm k):s.start n P room nm k x=s.start m Q room nm k x:=by
 unfold Sy.start;rw[vi a]
theorem JT{P:List (Bh (n+1))}{x:Tm k}{y:Tm c}(d:aB k x c y=true)(s:Sy)(room a b:Int):s.do n P room 3 a b k x=s.do n P room 3 a b c y:=by
 unfold Sy.do Sy.inject;rw[bV d,cM _ _ _ _ d,io d]
def qO:ap:=⟨#[99,111,117,110,116]⟩
def P5:ap:=⟨#[117,112]⟩
def P4:ap:=⟨#[97,115,107]⟩
def Ps:ap:=⟨#[104,97,118,101]⟩
def tE:ap:=⟨#[102,111,114,107]⟩
def CF:ap:=⟨#[98,97,100]⟩
def wA:ap:=⟨#[97]⟩
def OT:aw×Nat:=(none,0)
def Jo(N:Nat):Tm (N+1):=bT 6 0 N
def L9(u:Int)(N:Nat):Tm (N+1):=bT 1 u N
def Jr(u:Int)(N:Nat):Tm (N+1):=bT 5 u N
def fR:List (Bh 2):=[(qO,OT,[
 ((Jr 0 1,dl 1 [bq P5 0,Jr 1 0],dl 1 [bq wC 0,Jr 0 0,Jr 1 0]),OT,[]),
 ((Jr 0 1,dl 1 [bq P4 0,Jr 1 0],Jr 0 1),OT,[(1,(Jr 1 1,dl 1 [bq Ps 0,Jr 0 0]),.empty,0)]),
 ((Jo 1,bq tE 1,L9 1 1),OT,[(2,(zT 1,L9 0 1),qO,0),(3,(Jr 0 1,zT 1),.empty,0),(1,(Jr 0 1,dl 1 [bq P5 0,L9 7 0]),.empty,0)]),
 ((Jo 1,bq lW 1,L9 0 1),OT,[(4,(zT 1,zT 1),.empty,0)]),
 ((Jo 1,bq CF 1,dl 1 [bq wC 0,bq wA 0,bq wA 0]),OT,[])])]
def vz:Tc:=dl 12 [bq P5 11,L9 3 11]
def Gd:Sy:=(M1.start 1 fR 60 qO 1 (L9 2 0)).1
theorem Ju:lU 1 fR=0:=by kernel_rfl
theorem Ge:(M1.start 1 fR 60 qO 1 (L9 2 0)).2=0/\Gd.last=1:=⟨by kernel_rfl,by kernel_rfl⟩
def Lz:List (Int×Int×Int×Tc):=[(3,1,0,vz),(1,1,0,tF),(3,1,0,bq tE 12),(1,1,0,tF),(2,1,2,tF),(1,2,0,tF)]
def Pc:List (Int×Int×Int×Tc):=[(3,1,0,bq CF 12),(1,1,0,tF)]
def Jp(s:Sy)(e:Int×Int×Int×Tc):Sy×Int:=s.do 1 fR 60 e.1 e.2.1 e.2.2.1 13 e.2.2.2
def ze(s:Sy)(l:List (Int×Int×Int×Tc)):Sy:=l.foldl (λs e=>(Jp s e).1) s
def Da:Sy->List (Int×Int×Int×Tc)->Bool
 | _,[]=>true
 | s,e::l=>(Jp s e).2==0 && Da (Jp s e).1 l
theorem Js:Da Gd Lz=true:=by kernel_rfl
theorem Mb:Da (ze Gd Lz) Pc=true:=by kernel_rfl
theorem Oa:(ze Gd Lz).ps.map (·.1)=[1,2]:=by kernel_rfl
theorem Jt:((ze Gd Lz).get 2).map (λv=>(v.1,v.2.1.1))=some (qO,1,7,.empty):=by kernel_rfl
theorem Ma:(ze (ze Gd Lz) Pc).ps=[]:=by kernel_rfl
end Go.Proofs.YtmmahddlcldmiaaGreat
