/- What is proved here: plain facts and contracts that the claimed theorem stands on. No condition but those that each names. -/
import Derived.Test.YtnidfceinoiboaaGreatG31
namespace Go.Proofs.YtnidfceinoiboaaGreat
open Go.RowKit
set_option maxRecDepth 100000
set_option maxHeartbeats 2000000
structure lT where
 lo:Nat
 b:Nat
 room:Int
 n:Nat
 prog:List (Bh (n+1))
 pa:Option Addr
 pc:Nat
structure fW where
 ow:Nat->Int
 po:Option Nat
 l:List (Int×Nat)
 wo:Option Nat
 wn:Nat
 f:Int×Int->List Tc
 sl:Int×Int->Value
 bo:Option Nat
 bn:Nat
 ev:Value
 es:List (ByteArray×Int×Int×Tc)
 k:Nat
def dK(p:lT)(s:Sy)(d:fW):Array Value:= #[.slice p.pa p.prog.length p.pc,.int .i64 p.room,.int .i64 s.last,.map d.po,.map d.wo,.map d.bo,d.ev]
def xJ(p:lT)(s:Sy)(d:fW):BL:=⟨p.b,4,dK p s d,73⟩
def JO(p:lT)(s:Sy)(d:fW):BL:=⟨p.b,5,dK p s d,73⟩
def ET(e:ByteArray×Int×Int×Tc):List Value:=[.string e.1,.int .i64 e.2.1,.int .i64 e.2.2.1,.int .i64 e.2.2.2.1.1,.int .i64 e.2.2.2.1.2.1,.string e.2.2.2.1.2.2,.slice e.2.2.2.2.1.1 e.2.2.2.2.2.length e.2.2.2.2.1.2]
def yz(t:Tc):Prop:=bA 13 t=0\/(t.1=(0,0,⟨#[]⟩)/\t.2.2=[])
structure aV (p:lT) (s:Sy) (d:fW) (w:World):Prop where
 low:∀b,d.ow b≠0->p.lo<=b/\b<w.heap.size
 box:w.heap[p.b]?=some (.cells (dK p s d) 73)
 own:d.ow p.b=-5
 pg:(fx (p.n+1) w.heap.size w p.pa p.prog/\rJ (jl (p.n+1) λb=>d.ow b=-4) (λb=>d.ow b=-4) p.pa p.prog)/\(p.prog.length<=p.pc/\p.pc<=maxLen/\mz p.n p.prog=0/\(aq (p.n+6) (cR p.n p.prog)).length<=2097152)
 pm:(d.po=none/\d.l=[])\/∃mb,d.po=some mb/\d.ow mb=-5/\mb≠p.b/\IM w mb d.l
 keys:d.l.map (·.1)=s.ps.map (·.1)/\(s.ps.map (·.1)).Nodup/\(∀q∈s.ps,1<=q.1/\q.1<=s.last)/\0<=s.last/\s.last<=90/\s.ps.length<=12
 ps:∀k b,cE d.l k=some b->∃nm cs cms,s.get k=some (nm,cs,cms)/\P1 p.lo b nm p.room cs cms (d.k+201) (λq=>d.ow q=k) w/\cms.length<=20
 wy:gt p.lo (xJ p s d) d.wo d.wn 13 d.f d.sl w/\(∀b,qg (xJ p s d) d.wo d.sl b->b=p.b\/d.ow b=-1)/\(∀k,(d.f k).map (cn 13)=s.ways k)/\(∀k,(d.f k).length<=20)/\∀k,∀y∈d.f k,bA 13 y=0/\aF 13 y=true/\In w.heap.size w 13 y/\ch (λb=>d.ow b=-1/\¬qg (xJ p s d) d.wo d.sl b) 13 y
 bd:eq p.lo (JO p s d) d.bo d.bn s.bonds w/\uq s.bonds/\∀b,d.bo=some b->d.ow b=-2
 evr:w.ownsRow p.lo 39 7 d.ev d.es.length (d.es.flatMap ET)/\∀b,d.ev.ownBlock=some b->d.ow b=-3
 evt:d.es.map (λe=>(e.1,e.2.1,e.2.2.1,cn 13 e.2.2.2))=s.evs/\∀e∈d.es,(In w.heap.size w 13 e.2.2.2/\ch (λb=>d.ow b=-3/\d.ev.ownBlock≠some b) 13 e.2.2.2)/\yz e.2.2.2
theorem eX{S D:Nat->Prop}{w w':World}(c:bf S w w')(e:∀b,D b->¬S b){n:Nat}{x:Tm n}(a:In w.heap.size w n x/\ch D n x):In w'.heap.size w' n x/\ch D n x:=
 ⟨(In.off (P:=λb=>D b/\b<w.heap.size) (λb d=>c.block b d.2 (e b d.1)) (In.offB a.2 a.1) a.1).mono c.size,a.2⟩
theorem Dy{l:List (Int×Nat)}{k:Int}{b:Nat}(a:cE l k=some b):(k,b)∈l:=by
 unfold cE at a;cases c:l.find? (λe=>e.1==k)with
 | none=>rw[c]at a;cases a
 | some e=>
  rw[c]at a;have f:=List.mem_of_find?_eq_some c;have d:=List.find?_some c;simp at a d;subst a d;exact f
theorem aV.key{p:lT}{s:Sy}{d:fW}{w:World}(a:aV p s d w){k:Int}{b:Nat}(e:cE d.l k=some b):1<=k/\k<=s.last:=by
 have c:k∈d.l.map (·.1):=cC.2 ⟨_,Dy e,rfl⟩;rw[a.keys.1]at c;obtain⟨g,f,rfl⟩:=cC.1 c;exact a.keys.2.2.1 g f
theorem gt.turn{base:Nat}{p e:BL}{d:Option Nat}{n N:Nat}{f:Int×Int->List (Tm N)}{sl:Int×Int->Value}{w w':World}(c:gt base p d n N f sl w){S:Nat->Prop}(o:bf S w w')(l:∀b,qg p d sl b->b≠p.b->¬S b)(q:e.b=p.b)(j:rI e d w'):gt base e d n N f sl w':=by
 refine⟨by rw[q];exact c.1,j,?_⟩;rcases c.2.2 with a|⟨r,rfl,m⟩
 ·exact ae a
 ·refine af ⟨r,rfl,m.kee o λb g=>l b (Cv g) λa=>?_⟩;rcases g with rfl|⟨k,h,i⟩
  ·exact um c a.symm
  ·exact xG c h (by rw[i,a])
theorem eq.turn{base:Nat}{p c:BL}{a:Option Nat}{n:Nat}{g:Int×Int->Bool}{w w':World}(d:eq base p a n g w){S:Nat->Prop}(j:bf S w w')(i:∀b:Nat,a=Option.some b->¬S b)(k:c.b=p.b)(h:rI c a w'):eq base c a n g w':=by
 refine⟨by rw[k];exact d.1,h,?_⟩;rcases d.2.2 with f|⟨e,rfl,l⟩
 ·exact ae f
 ·exact af ⟨e,rfl,l.kee j (i e rfl)⟩
section
variable {p:lT} {s:Sy} {d:fW} {w w':World} {ow:Nat->Int} {S:Nat->Prop}
theorem aV.pgK(e:aV p s d w)(f:bf S w w')(g:∀b,d.ow b=-4->¬S b)(h:∀b,d.ow b≠0->ow b=d.ow b):fx (p.n+1) w'.heap.size w' p.pa p.prog/\rJ (jl (p.n+1) λb=>ow b=-4) (λb=>ow b=-4) p.pa p.prog:=by
 have c:=bZ (dH (p.n+1)) 2 (nr (p.n+1)) p.pa;exact⟨c.2.2.2.1 _ _ _ _ f.size (c.2.2.1 _ _ _ w' _ (λb a=>f.block b a.2 (g b a.1)) (c.2.1 _ _ _ _ e.pg.1.2 e.pg.1.1) e.pg.1.1),c.1 _ _ _ (λb a=>(h b (by rw[a];decide)).trans a) e.pg.1.2⟩
theorem aV.pmK(f:aV p s d w)(k:bf S w w')(j:∀b,d.ow b=-5->b≠p.b->¬S b)(m:∀b,d.ow b≠0->ow b=d.ow b):(d.po=none/\d.l=[])\/∃a,d.po=some a/\ow a=-5/\a≠p.b/\IM w' a d.l:=by
 rcases f.pm with g|⟨a,h,c,e,i⟩
 ·exact ae g
 ·exact af ⟨a,h,(m a (by rw[c];decide)).trans c,e,i.kept (k.block a (f.low a (by rw[c];decide)).2 (j a c e))⟩
theorem aV.psK(f:aV p s d w)(c:bf S w w'){k:Int}{b j:Nat}(o:d.k<=j)(n:∀b,d.ow b=k->¬S b)(t:∀b,d.ow b≠0->ow b=d.ow b)(r:∀b,ow b≠0->p.lo<=b/\b<w'.heap.size)(g:cE d.l k=some b):∃nm cs a,s.get k=some (nm,cs,a)/\P1 p.lo b nm p.room cs a (j+201) (λq=>ow q=k) w'/\a.length<=20:=by
 obtain⟨nm,cs,a,h,i,m⟩:=f.ps k b g;have u:=(f.key g).1;exact⟨nm,cs,a,h,(i.kept (S:=S) ⟨c.os,c.tape,c.output,c.size,c.block⟩ n).mono (λb e=>(t b (by rw[e];omega)).trans e) (Nat.add_le_add_right o 201) λb e=>r b (by rw[e];omega),m⟩
theorem aV.wyK(e:aV p s d w)(j:bf S w w')(i:∀b,d.ow b=-1->¬S b)(l:∀b,d.ow b≠0->ow b=d.ow b){q:BL}(m:q.b=p.b)(o:rI q d.wo w'):gt p.lo q d.wo d.wn 13 d.f d.sl w'/\(∀b,qg q d.wo d.sl b->b=p.b\/ow b=-1)/\∀k,∀y∈d.f k,bA 13 y=0/\aF 13 y=true/\In w'.heap.size w' 13 y/\ch (λb=>ow b=-1/\¬qg q d.wo d.sl b) 13 y:=by
 have h:∀b,qg q d.wo d.sl b ↔ qg (xJ p s d) d.wo d.sl b:=λb=>by
  unfold qg;rw[m];exact Iff.rfl
 refine⟨e.wy.1.turn j (λb c r=>?_) m o,λb c=>(e.wy.2.1 b ((h b).1 c)).imp id λa=>(l b (by rw[a];decide)).trans a,λk y t=>?_⟩
 ·rcases e.wy.2.1 b c with a|a
  ·exact absurd a r
  ·exact i b a
 ·obtain⟨y1,y2,u⟩:=e.wy.2.2.2.2 k y t;have n:=eX j (λb q=>i b q.1) u;exact⟨y1,y2,n.1,n.2.mono λb g=>⟨(l b (by rw[g.1];decide)).trans g.1,λc=>g.2 ((h b).1 c)⟩⟩
theorem aV.bdK(a:aV p s d w)(g:bf S w w')(f:∀b,d.ow b=-2->¬S b)(h:∀b,d.ow b≠0->ow b=d.ow b){q:BL}(i:q.b=p.b)(e:rI q d.bo w'):eq p.lo q d.bo d.bn s.bonds w'/\uq s.bonds/\∀b,d.bo=some b->ow b=-2:=
 ⟨a.bd.1.turn g (λb c=>f b (a.bd.2.2 b c)) i e,a.bd.2.1,λb c=>(h b (by rw[a.bd.2.2 b c];decide)).trans (a.bd.2.2 b c)⟩
theorem aV.evK(c:aV p s d w)(h:bf S w w')(f:∀b,d.ow b=-3->¬S b)(i:∀b,d.ow b≠0->ow b=d.ow b):(w'.ownsRow p.lo 39 7 d.ev d.es.length (d.es.flatMap ET)/\∀b,d.ev.ownBlock=some b->ow b=-3)/\∀e∈d.es,(In w'.heap.size w' 13 e.2.2.2/\ch (λb=>ow b=-3/\d.ev.ownBlock≠some b) 13 e.2.2.2)/\yz e.2.2.2:=by
 refine⟨⟨aT c.evr.1 h λb a=>f b (c.evr.2 b a),λb a=>(i b (by rw[c.evr.2 b a];decide)).trans (c.evr.2 b a)⟩,λe g=>⟨?_,(c.evt.2 e g).2⟩⟩;have j:=eX h (λb a=>f b a.1) (c.evt.2 e g).1;exact⟨j.1,j.2.mono λb a=>⟨(i b (by rw[a.1];decide)).trans a.1,a.2⟩⟩
theorem o8{d:fW}{w:World}(a:w.heap[p.b]?=some (.cells (dK p s d) 73)):rI (xJ p s d) d.wo w/\rI (JO p s d) d.bo w:=by
 refine⟨⟨⟨by simp[xJ,dK],by simp[xJ]⟩,?_⟩,⟨⟨by simp[JO,dK],by simp[JO]⟩,?_⟩⟩
 ·simp[xJ,dK,a]
 ·simp[JO,dK,a]
theorem aV.kept(a:aV p s d w)(c:bf S w w')(n:∀b,S b->d.ow b=0):aV p s d w':=by
 have j:∀b,d.ow b≠0->¬S b:=λb e r=>e (n b r);have f:∀b,d.ow b≠0->d.ow b=d.ow b:=λ_ _=>rfl;have h:w'.heap[p.b]?=some (.cells (dK p s d) 73):=(c.block p.b (aE.1 a.box).1 (j p.b (by rw[a.own];decide))).trans a.box;have i:∀b,d.ow b≠0->p.lo<=b/\b<w'.heap.size:=λb e=>⟨(a.low b e).1,aL (a.low b e).2 c.size⟩;have t:∀{t:Int},t≠0->∀b,d.ow b=t->¬S b:=λo b g=>j b (by rw[g];exact o);obtain⟨y1,y2,q⟩:=a.wyK c (t (by decide)) f rfl (o8 h).1;obtain⟨l,m⟩:=a.evK c (t (by decide)) f;exact⟨i,h,a.own,⟨a.pgK c (t (by decide)) f,a.pg.2⟩,a.pmK c (λb g _=>t (by decide) b g) f,a.keys,λk b e=>a.psK c (ag _) (t (by have:=(a.key e).1;omega)) f i e,⟨y1,y2,a.wy.2.2.1,a.wy.2.2.2.1,q⟩,a.bdK c (t (by decide)) f rfl (o8 h).2,l,a.evt.1,m⟩
theorem aV.later(a:aV p s d w)(b:Below w.heap.size w w'):aV p s d w':=a.kept (aC b λ_=>False) λ_ q=>q.elim
end
def K9(f g:Int)(h:ByteArray)(xa:Option Addr)(i xc:Nat)(t:Tc)(w:World):Prop:=
 ∀b,Below w.heap.size w b->Calls Tryz.prog 45 #[.agg #[.int .i64 f,.int .i64 g,.string h,.slice xa i xc]] b λd c=>∃y0 y1 y2 ya yl yc,d=.returned (.agg #[.int .i64 y0,.int .i64 y1,.string y2,.slice ya yl yc])/\Hid (Below b.heap.size b c/\∃a:Tc,(a.1=(y0,y1,y2)/\a.2.1=(ya,yc)/\a.2.2.length=yl)/\(In c.heap.size c 13 a/\ch (λe=>b.heap.size<=e) 13 a)/\cn 13 a=t/\yz a)
theorem jC{m:Nat}{x:Tm (m+1)}{w:World}(n:In w.heap.size w (m+1) x)(g:bA (m+1) x=0):K9 x.1.1 x.1.2.1 x.1.2.2 x.2.1.1 x.2.2.length x.2.1.2 (cn (m+1) x) w:=λW f=>by
 have l:aB ⟨m+1,x⟩:=aJ.2 (bv.1 g).1;refine(gz (m+1) x W.heap.size W ((n.below f).mono f.size) (ag _) l).mono ?_;rintro e w' ⟨y,rfl,H⟩;obtain⟨i,j,k,d⟩:=H.out;have a:bA (m+1) y=0:=(bI d).trans g;have c:aB ⟨m+1,y⟩:=aJ.2 (bv.1 a).1;have b:eW (m+1) y<13:=by have:=(bv.1 a).2.1;omega
 have h:=iF 13 (m+1) y c b;refine⟨y.1.1,y.1.2.1,y.1.2.2,y.2.1.1,y.2.2.length,y.2.1.2,rfl,i,aI 13 (m+1) y,⟨rfl,rfl,by simp[aI]⟩,⟨qH 13 (m+1) y _ _ c b j,sf 13 (m+1) y _ c b k⟩,(gw h).trans (gw d),ae ((bI h).trans a)⟩
theorem Fu(w:World):K9 0 0 ⟨#[]⟩ none 0 0 KW w:=λW h=>by
 refine(qy 12 0 0 ⟨#[]⟩ none 0 0 [] W (by decide) λw1 c=>?_).mono ?_
 ·refine(kG none 0 w1).mono ?_;rintro e w' ⟨rfl,rfl⟩;exact⟨none,0,[],rfl,ah _ _,rfl,ag _,aD _,rfl,ae rfl⟩
 ·rintro e w' ⟨a,b,l,rfl,H⟩;obtain⟨c,d,g,f,_⟩:=H.out;obtain rfl:l=[]:=bK d;exact⟨0,0,⟨#[]⟩,a,0,b,rfl,c,((0,0,⟨#[]⟩),(a,b),[]),⟨rfl,rfl,rfl⟩,⟨⟨⟨show dc 0 by unfold dc;decide,show dc 0 by unfold dc;decide,show (0:Nat)<=maxLen from aD _,aD _,f⟩,ae rfl⟩,ae rfl⟩,rfl,af ⟨rfl,rfl⟩⟩
def CI(d:fW)(w w':World)(t:Int)(q:Nat):Int:=if w.heap.size<=q/\q<w'.heap.size then t else d.ow q
theorem si{p:lT}{s:Sy}{d:fW}{w w':World}{t:Int}(a:aV p s d w)(e:w.heap.size<=w'.heap.size)(c:p.lo<=w.heap.size):∀b,CI d w w' t b≠0->p.lo<=b/\b<w'.heap.size:=λb q=>by
 unfold CI at q;split at q
 ·omega
 ·have:=a.low b q;omega
theorem sj{p:lT}{s:Sy}{d:fW}{w w':World}{t:Int}(a:aV p s d w):∀b,d.ow b≠0->CI d w w' t b=d.ow b:=λb q=>by
 have:=(a.low b q).2;exact if_neg (by omega)
theorem aV.lo{p:lT}{s:Sy}{d:fW}{w:World}(a:aV p s d w):p.lo<=w.heap.size/\p.b<w.heap.size:=by
 have:=a.low p.b (by rw[a.own];decide);omega
def vU(p:lT)(s:Sy)(d:fW)(wt:ByteArray)(a b:Int)(t:Tc)(w w':World):Prop:=
 ∃e f,aV p (s.tell wt a b t) {d with ow:=CI d w w' (-3),ev:=e,es:=d.es++ [(wt,a,b,f)]} w'/\bf (λc=>c=p.b\/d.ow c=-3) w w'
theorem aV.tell{p:lT}{s:Sy}{d:fW}{w:World}(g:aV p s d w)(wt:ByteArray)(a b V W:Int)(X:ByteArray)(xa:Option Addr)(Y xc:Nat)(t:Tc)(ay:K9 V W X xa Y xc t w)(ax:d.es.length<=100000):Calls Tryz.prog 35 #[.pointer (some ⟨p.b,0,none⟩),.string wt,.int .i64 a,.int .i64 b,.agg #[.int .i64 V,.int .i64 W,.string X,.slice xa Y xc]] w λe w'=>e=.returned (.tuple #[])/\Hid (vU p s d wt a b t w w'):=by
 obtain⟨aa,ak⟩:=g.lo;obtain⟨y,z,m⟩:∃y z,d.ev=.slice y d.es.length z:=by
  rcases g.evr.1.2 with⟨e,av⟩|⟨i,c,aL,e,_⟩
  ·exact⟨none,0,by rw[e,av]⟩
  ·exact⟨_,c,e⟩
 have O:=g.box;have I:d.ev.ownBlock≠some p.b:=λe=>by
  have u:=g.evr.2 _ e;rw[g.own]at u;cases u
 have aj:=g.evr.1;rw[m]at aj I;refine(BR p.lo p.b wt a b V W X xa Y xc y d.es.length z _ (λK w' y0 y1 y2 ya yl yc=>∃l:Tc,(l.1=(y0,y1,y2)/\l.2.1=(ya,yc)/\l.2.2.length=yl)/\(In w'.heap.size w' 13 l/\ch (λf=>K.heap.size<=f) 13 l)/\cn 13 l=t/\yz l) w ax ak aa ⟨?_,by simp[World.frozen?,O]⟩ aj I ay).mono ?_
 ·have u:=ab O 6;simp only[dK,cH,cT]at u;rw[m]at u;exact u
 rintro e w' ⟨rfl,an⟩;obtain⟨i,c,q,x,K,L,y0,y1,y2,ya,yl,yc,R,aG,⟨l,⟨M,N,aw⟩,Q,az,aD⟩,S,al,J⟩:=an.out;have H:Below w.heap.size w L:=R.trans (aG.mono R.size);have P:bf (λaK=>(Value.slice y d.es.length z).ownBlock=some aK) w q:=(aC H _).trans S λ_ _ e=>e;have o:bf (λf=>f=p.b\/d.ow f=-3) w w':=by
  rw[x];refine(P.mono (T:=λf=>f=p.b\/d.ow f=-3) λf _ e=>af (g.evr.2 f (by rw[m];exact e))).trans (bH q p.b 6 _) λf _ e=>ae e
 have aF:=o.size;have aO:w'.heap.size=q.heap.size:=by rw[x];simp[World.setCell]
 have Z:w'.heap[p.b]?=some (.cells (dK p (s.tell wt a b t) {d with ow:=CI d w w' (-3),ev:=.slice (some ⟨i,0,none⟩) (d.es.length+1) c,es:=d.es++ [(wt,a,b,l)]}) 73):=by
  have v:q.heap[p.b]?=some (.cells (dK p s d) 73):=(P.block p.b ak I).trans O;rw[x];simp[World.setCell,bJ,v,dK,Sy.tell]
 have ad:=si (t:=-3) g aF aa;have n:=sj (w':=w') (t:=-3) g;have G:∀{U:Int},U≠ -3->U≠ -5->∀f,d.ow f=U->¬(f=p.b\/d.ow f=-3):=λF v f e h=>by
  rcases h with rfl|h
  ·rw[g.own]at e;exact v e.symm
  ·exact F (e.symm.trans h)
 have ai:∀f,w.heap.size<=f->f<w'.heap.size->CI d w w' (-3) f=-3:=λf ao aq=>if_pos ⟨ao,aq⟩;obtain⟨ar,au⟩:=o8 Z;obtain⟨E,j,r⟩:=g.wyK o (G (by decide) (by decide)) n rfl ar;refine⟨rfl,.slice (some ⟨i,0,none⟩) (d.es.length+1) c,l,⟨ad,Z,(n p.b (by rw[g.own];decide)).trans g.own,⟨g.pgK o (G (by decide) (by decide)) n,g.pg.2⟩,g.pmK o (λf M N h=>?_) n,g.keys,λk b f=>g.psK o (ag _) (G (by have:=(g.key f).1;omega) (by have:=(g.key f).1;omega)) n ad f,⟨E,j,g.wy.2.2.1,g.wy.2.2.2.1,r⟩,g.bdK o (G (by decide) (by decide)) n rfl au,⟨?_,λf e=>?_⟩,?_,λe A=>?_⟩,o⟩
 ·rcases h with h|h
  ·exact N h
  ·rw[M]at h;cases h
 ·have e:[(wt,a,b,l)].flatMap ET=[.string wt,.int .i64 a,.int .i64 b,.int .i64 y0,.int .i64 y1,.string y2,.slice ya yl yc]:=by simp[ET,M,N,aw]
  have v:w'.ownsRow p.lo 39 7 (.slice (some ⟨i,0,none⟩) (d.es.length+1) c) (d.es.length+1) (d.es.flatMap ET++ [(wt,a,b,l)].flatMap ET):=by
   rw[e,x];refine aT al (bH q p.b 6 _) λf aE h=>?_;have:i=f:=ap aE;subst this h;rcases J with h|h
   ·exact I h
   ·have:=H.size;omega
  rw[<-jM]at v;simpa using v
 ·have B:i=f:=ap e;subst B;rcases J with h|h
  ·have F:=g.evr.2 i (by rw[m];exact h);exact(n i (by rw[F];decide)).trans F
  ·have:=H.size;have:=(al.lt i rfl).2;exact ai i (by omega) (by omega)
 ·show _=s.evs++ [(wt,a,b,t)];rw[ft,g.evt.1,aH,bQ,az]
 ·have aB:bf (λf=>f=p.b\/d.ev.ownBlock=some f) w w':=by
    rw[x,m];exact(P.mono (T:=λf=>f=p.b\/(Value.slice y d.es.length z).ownBlock=some f) λf _ e=>af e).trans (bH q p.b 6 _) λf _ e=>ae e
  have aA:bf (λf=>f=p.b\/d.ev.ownBlock=some f) L w':=by
   rw[x,m];exact(S.mono (T:=λf=>f=p.b\/(Value.slice y d.es.length z).ownBlock=some f) λf _ e=>af e).trans (bH q p.b 6 _) λf _ e=>ae e
  have aN:=H.size;rcases di.1 A with A|A
  ·obtain⟨⟨am,aI⟩,aJ⟩:=g.evt.2 e A;refine⟨?_,aJ⟩;have C:=eX aB (D:=λf=>(d.ow f=-3/\d.ev.ownBlock≠some f)/\f<w.heap.size) (λf E j=>?_) ⟨am,In.offB aI am⟩
   ·refine⟨C.1,C.2.mono λf h=>⟨(n f (by rw[h.1.1];decide)).trans h.1.1,λj=>?_⟩⟩;have B:i=f:=ap j;subst B;rcases J with r|r
    ·exact h.1.2 (by rw[m];exact r)
    ·omega
   ·rcases j with rfl|j
    ·have:=E.1.1;rw[g.own]at this;cases this
    ·exact E.1.2 j
  ·obtain rfl:=dj.1 A;refine⟨?_,aD⟩;have aM:=R.size;have ah:∀f,d.ev.ownBlock=some f->f<w.heap.size:=λf h=>(g.evr.1.lt f h).2;have C:=eX aA (D:=λf=>K.heap.size<=f/\f<L.heap.size) (λf E j=>?_) ⟨Q.1,In.offB Q.2 Q.1⟩
   ·have:=S.size;refine⟨C.1,C.2.mono λf h=>⟨ai f (by omega) (by omega),λj=>?_⟩⟩;have B:i=f:=ap j;subst B;rcases J with r|r
    ·have:=ah i (by rw[m];exact r);omega
    ·omega
   ·rcases j with rfl|j
    ·omega
    ·have:=ah f j;omega
theorem Ma{w:World}{q:Nat}{a b c d:Value}{T:TypeId}{fr:Nat×Nat}(e:w.heap[q]?=some (.cells #[a,b,c,d] T fr)):w.cell? ⟨q,0,none⟩=some a/\w.cell? ⟨q,1,none⟩=some b/\w.cell? ⟨q,2,none⟩=some c/\w.cell? ⟨q,3,none⟩=some d:=by simp[World.cell?,e]
theorem Dx{l:List (Int×Nat)}{ps:List (Int×ByteArray×Tc×List Tc)}(k:Int)(a:l.map (·.1)=ps.map (·.1)):(cE l k).isSome=((ps.find? λp=>p.1==k).map (·.2)).isSome:=by
 induction l generalizing ps with
 | nil=>
  cases ps with
  | nil=>rfl
  | cons b ps=>simp at a
 | cons c l ih=>
  cases ps with
  | nil=>simp at a
  | cons b ps=>
   simp only[aH,List.cons.injEq]at a;have ih:=ih a.2;unfold cE at ih ⊢;rw[gJ,gJ,a.1];cases b.1==k
   ·exact ih
   ·rfl
section
variable {p:lT} {s:Sy} {d:fW} {w:World}
theorem aV.alive(a:aV p s d w)(k:Int):(cE d.l k).isSome=(s.get k).isSome:=Dx k a.keys.1
theorem aV.look(g:aV p s d w)(k:Int)(c:Bool):(Instr.lookup 64 (.map d.po) (.int .i64 k) c).run Tryz.prog w=.ok (if c then .tuple #[match cE d.l k with|some b=>xI b|none=> .pointer none,.bool (cE d.l k).isSome]else match cE d.l k with|some b=>xI b|none=> .pointer none) w:=by
 rcases g.pm with⟨a,f⟩|⟨j,a,_,_,f⟩
 ·rw[a,f];have:=AX w k c;cases c<;>exact this
 ·rw[a];obtain⟨h,i⟩:=f.look k c;cases e:cE d.l k with
  | none=>
   rw[h e];cases c<;>rfl
  | some b=>
   rw[i b e];cases c<;>rfl
theorem aV.cells(c:aV p s d w):w.cell? ⟨p.b,0,none⟩=some (.slice p.pa p.prog.length p.pc)/\w.cell? ⟨p.b,1,none⟩=some (.int .i64 p.room)/\w.cell? ⟨p.b,2,none⟩=some (.int .i64 s.last)/\w.cell? ⟨p.b,3,none⟩=some (.map d.po):=by
 have a:=c.box;exact⟨ab a 0,ab a 1,ab a 2,ab a 3⟩
theorem aV.isAlive(a:aV p s d w)(k:Int):Calls Tryz.prog 40 #[.pointer (some ⟨p.b,0,none⟩),.int .i64 k] w λe w'=>e=.returned (.bool (s.get k).isSome)/\w'=w:=by
 have i:=a.cells.2.2.2;have f:=a.look k true;rw[if_pos rfl]at f;have c:=a.alive k;obtain⟨h,g⟩:∃h,h=(s.get k).isSome:=⟨_,rfl⟩;rw[<-g]at c ⊢;rw[c]at f;generalize (match cE d.l k with|some b=>xI b|none=> .pointer none)=m at f;clear c g;generalize d.po=j at*;clear a;go_enter Tryz.func40,Tryz.ntmps40;go_wp2_with fail
 go_ret
 exact⟨rfl,rfl⟩
theorem aV.len(c:aV p s d w)(ty:TypeId):(Builtin.len_ #[64] ty #[.map d.po]).run Tryz.prog w=.ok (.int .i64 s.ps.length) w:=by
 have e:d.l.length=s.ps.length:=by
  have:=congrArg List.length c.keys.1;simpa using this
 rcases c.pm with⟨a,b⟩|⟨f,a,_,_,b⟩
 ·rw[a,<-e,b];exact Maps.len_nil Tryz.underlying64 ty
 ·rw[a,<-e];exact qk.len b Tryz.underlying64 ty
theorem aV.mayHave(c:aV p s d w)(n:Nat)(r:n<=1000):Calls Tryz.prog 29 #[.pointer (some ⟨p.b,0,none⟩),.int .i64 n] w λe w'=>e=.returned (.bool (s.may n))/\w'=w:=by
 obtain⟨_,_,k,l⟩:=c.cells;have q:=c.len 3;obtain⟨_,_,_,t,u,v⟩:=c.keys;obtain⟨j,a⟩:∃j,j=s.may n:=⟨_,rfl⟩;rw[<-a];unfold Sy.may at a;generalize s.last=h at*;generalize s.ps.length=f at*;generalize d.po=x at*;clear c;have m:IntKind.i64.wrap ((f:Int)+n)=(f:Int)+n:=by rw[IntKind.wrap];simp[IntKind.bits,IntKind.signed];omega
 have o:IntKind.i64.wrap (h+n)=h+n:=by rw[IntKind.wrap];simp[IntKind.bits,IntKind.signed];omega
 go_enter Tryz.func29,Tryz.ntmps29;by_cases g:(f:Int)+n<=12
 ·by_cases i:h+n<=90
  ·rw[jc g,jc i]at a;subst a;go_wp2_with fail
   go_ret
   exact⟨rfl,rfl⟩
  ·rw[jc g,decide_eq_false i]at a;subst a;go_wp2_with fail
   go_ret
   exact⟨rfl,rfl⟩
 ·rw[decide_eq_false g]at a;subst a;go_wp2_with fail
  go_ret
  exact⟨rfl,rfl⟩
theorem A5(n:Nat)(nm:ByteArray)(l:List (Bh n))(q:Option Addr)(F len B r:Nat)(w:World)(J:l.length=len)(K:len<=9223372036854775807)(C:B<=w.heap.size)(_hsb:r<w.heap.size)(v:Hid (w.cell? ⟨r,0,none⟩=some (.slice q len F)))(y:Hid (fx n B w q l)):Calls Tryz.prog 30 #[.pointer (some ⟨r,0,none⟩),.string nm] w λe w'=>e=.returned (.bool (gm n nm l).isSome)/\Below w.heap.size w w':=by
 have H:=v.out;go_enter Tryz.func30,Tryz.ntmps30;go_wp2_with fail;go_loopw [12] (λm wr=>∃a:Nat,a<=len/\m=.int .i64 a/\Hid (Below w.heap.size w wr/\gm n nm l=gm n nm (l.drop a))) (λm _=>len-(intOf m).toNat)
 case atStart=>exact⟨0,by omega,rfl,ah _ _,rfl⟩
 case round=>
 obtain⟨a,I,rfl,c⟩:=hrel;by_cases L:a<len
 ·obtain⟨b,d⟩:∃b,l[a]?=some b:=⟨l[a]'(by omega),aA _⟩;obtain⟨j,lo,rfl,E,x⟩:∃g o,q=some ⟨g,o,none⟩/\g<B/\Hid (∀(t:Nat)(f:Value),(nr n b)[t]?=some f->w.cell? ⟨g,o+a*2+t,none⟩=some f):=by
   rcases y.out with e|⟨g,o,e,D,A⟩
   ·rw[e]at d;simp at d
   ·exact⟨g,o,e,D,(A a _ d).1⟩
  have h:∀(t:Nat)(f:Value),(nr n b)[t]?=some f->wr.cell? ⟨j,lo+a*2+t,none⟩=some f:=λt f u=>(c.out.1.cell (p:=⟨j,lo+a*2+t,none⟩) (aL E C)).trans (x.out t f u);have G:wr.cell? ⟨j,lo+a*2,none⟩=some (.string b.1):=h 0 _ rfl;have O:wr.cell? ⟨j,lo+a*2+1,none⟩=some (.slice b.2.1.1 b.2.2.length b.2.1.2):=h 1 _ rfl;have M:(0:Int)<=(a:Int):=by omega
  have N:(a:Int)<(len:Int):=by omega
  have s:Hid (∀o,Below w.heap.size w (wr.alloc o)):=λo=>c.out.1.alloc c.out.1.size o;by_cases i:b.1=nm
  ·have k:Hid (gm n nm l=some b):=by
     show _=_;rw[c.out.2,ns n nm d,if_pos i]
   rw[i]at G;clear h c d;go_wp2_with fail
   go_ret
   exact⟨bF (by rw[k.out];rfl),s.out _⟩
  ·have k:Hid (gm n nm l=gm n nm (l.drop (a+1))):=by
     show _=_;rw[c.out.2,ns n nm d,if_neg i]
   have u:(b.1.toList==nm.toList)=false:=by
    rw[gP];intro e;rw[du,du]at e;exact i (ByteArray.ext (Array.ext' e))
   clear h c d;go_wp2_with fail;go_roundw
   case rel=>exact⟨a+1,by omega,by go_num,s.out _,k.out⟩
   case measure=>simp[intOf];omega
 ·obtain rfl:a=len:=by omega
  have z:Hid (gm n nm l=none):=by
   show _=_;rw[c.out.2,List.drop_of_length_le (by omega)];rfl
  have HB:=ai c.out.1;clear c;go_wp2_with fail
  go_ret
  exact⟨bF (by rw[z.out];rfl),HB.out⟩
theorem aV.knows(a:aV p s d w)(nm:ByteArray):Calls Tryz.prog 30 #[.pointer (some ⟨p.b,0,none⟩),.string nm] w λe w'=>e=.returned (.bool (mR p.n p.prog nm))/\Below w.heap.size w w':=
 A5 (p.n+1) nm p.prog p.pa p.pc p.prog.length w.heap.size p.b w rfl (au a.pg.2.1 a.pg.2.2.1) (ag _) a.lo.2 a.cells.1 a.pg.1.1
end
theorem mN{g:Type}{k j:Int}(d:j≠k):(l:List (Int×g))->(l.eraseP λp=>p.1==k).find? (λp=>p.1==j)=l.find? λp=>p.1==j
 | []=>rfl
 | a::l=>by
  rw[List.eraseP_cons];by_cases b:a.1=k
  ·have c:(a.1==k)=true:=by simpa using b
   have f:(a.1==j)=false:=by simp[b];exact λe=>d e.symm
   simp[c,f]
  ·have c:(a.1==k)=false:=by simpa using b
   simp only[c,cond_false,gJ];rw[mN d l]
theorem uW{g:Type}{k:Int}:(l:List (Int×g))->(l.map (·.1)).Nodup->(l.eraseP λp=>p.1==k).find? (λp=>p.1==k)=none
 | [],_=>rfl
 | a::l,hn=>by
  rw[aH,jR]at hn;rw[List.eraseP_cons];by_cases b:a.1=k
  ·have c:(a.1==k)=true:=by simpa using b
   simp only[c,cond_true];refine nR.2 λf e=>?_;simp only[ci];intro d;exact hn.1 (cC.2 ⟨f,e,d.trans b.symm⟩)
  ·have c:(a.1==k)=false:=by simpa using b
   simp only[c,cond_false,gJ];exact uW l hn.2
def dE(a:Nat)(d b:fW)(w w':World):Prop:=bf (λq=>d.ow q<0) w w'/\(∀q,q<w.heap.size->b.ow q=d.ow q)/\b.k=d.k/\b.es.length<=d.es.length+a/\b.wn<=d.wn+a/\b.bn<=d.bn+a
theorem dE.trans{a b:Nat}{d d1 f:fW}{w w1 w2:World}(j:dE a d d1 w w1)(k:dE b d1 f w1 w2):dE (a+b) d f w w2:=by
 obtain⟨h,i,l,p,q,r⟩:=j;obtain⟨m,n,o,t,u,v⟩:=k;have s:=h.size;exact⟨h.trans m λc e g=>by rw[i c e]at g;exact g,λc e=>(n c (by omega)).trans (i c e),o.trans l,by omega,by omega,by omega⟩
theorem dE.mono{a b:Nat}{d d1:fW}{w w1:World}(c:dE a d d1 w w1)(k:a<=b):dE b d d1 w w1:=by
 obtain⟨e,f,g,h,i,j⟩:=c;exact⟨e,f,g,by omega,by omega,by omega⟩
theorem dE.later(d:fW){w w1:World}(a:Below w.heap.size w w1):dE 0 d d w w1:=⟨aC a _,λ_ _=>rfl,rfl,ag _,ag _,ag _⟩
theorem vU.up{p:lT}{s:Sy}{d:fW}{wt:ByteArray}{a b:Int}{t:Tc}{w w':World}(f:aV p s d w)(k:vU p s d wt a b t w w'):∃e,aV p (s.tell wt a b t) e w'/\dE 1 d e w w':=by
 obtain⟨l,m,g,h⟩:=k;refine⟨_,g,h.mono λi _ c=>?_,λi j=>if_neg (by omega),rfl,by simp,fw _,fw _⟩;rcases c with c|c
 ·rw[c,f.own];decide
 ·rw[c];decide
section
variable {p:lT} {s:Sy} {d:fW} {w:World}
theorem aV.del(a:aV p s d w)(k:Int):∃w',(∀ty,(Builtin.delete_ #[64,3] ty #[.map d.po,.int .i64 k]).run Tryz.prog w=.ok (.tuple #[]) w')/\aV p {s with ps:=s.ps.eraseP λq=>q.1==k} {d with l:=d.l.eraseP λq=>q.1==k} w'/\bf (λq=>d.ow q=-5/\q≠p.b) w w':=by
 have J:(d.l.eraseP λq=>q.1==k).map (·.1)=(s.ps.eraseP λq=>q.1==k).map (·.1):=by
  have e:=congrArg (λl=>l.eraseP (λq=>q==k)) a.keys.1;simpa [List.eraseP_map,Function.comp_def]using e
 obtain⟨E,u,F,G,H,I⟩:=a.keys;have L:(d.l.map (·.1)).Nodup:=by rw[E];exact u
 have v:∀(w':World),bf (λq=>d.ow q=-5/\q≠p.b) w w'->((d.po=none/\d.l.eraseP (λq=>q.1==k)=[])\/∃h,d.po=some h/\d.ow h=-5/\h≠p.b/\IM w' h (d.l.eraseP λq=>q.1==k))->aV p {s with ps:=s.ps.eraseP λq=>q.1==k} {d with l:=d.l.eraseP λq=>q.1==k} w':=λw' c M=>by
  have i:∀b,d.ow b≠0->d.ow b=d.ow b:=λ_ _=>rfl;have y:∀b,d.ow b≠0->p.lo<=b/\b<w'.heap.size:=λb q=>⟨(a.low b q).1,aL (a.low b q).2 c.size⟩;have m:w'.heap[p.b]?=some (.cells (dK p s d) 73):=(c.block p.b a.lo.2 λn=>n.2 rfl).trans a.box;have t:∀{t:Int},t≠ -5->∀b,d.ow b=t->¬(d.ow b=-5/\b≠p.b):=λO b e n=>O (e.symm.trans n.1);obtain⟨y1,y2,T⟩:=a.wyK c (t (by decide)) i rfl (o8 m).1;obtain⟨f,g⟩:=a.evK c (t (by decide)) i;refine⟨y,m,a.own,⟨a.pgK c (t (by decide)) i,a.pg.2⟩,M,⟨J,?_,λq N=>F q (List.mem_of_mem_eraseP N),G,H,?_⟩,λj b q=>?_,⟨y1,y2,a.wy.2.2.1,a.wy.2.2.2.1,T⟩,a.bdK c (t (by decide)) i rfl (o8 m).2,f,a.evt.1,g⟩
  ·exact(u.sublist ((List.eraseP_sublist (l:=s.ps) (p:=λq=>q.1==k)).map _))
  ·exact au (List.length_eraseP_le) I
  ·have x:j≠k:=λe=>by
     subst e;have:cE (d.l.eraseP λq=>q.1==j) j=none:=by unfold cE;rw[uW d.l L];rfl
     rw[this]at q;cases q
   have z:cE d.l j=some b:=by
    unfold cE at q ⊢;rw[mN x]at q;exact q
   obtain⟨P,B,A,r,D⟩:=a.psK c (ag _) (t (by have:=(a.key z).1;omega)) i y z;refine⟨P,B,A,?_,D⟩;unfold Sy.get at r ⊢;rw[mN x];exact r
 rcases a.pm with⟨f,g⟩|⟨h,f,g,o,C⟩
 ·refine⟨w,?_,v w (bf.refl _ _) (ae ⟨f,by rw[g];rfl⟩),bf.refl _ _⟩;have K:=Tryz.underlying64;intro ty;rw[f];simp[Builtin.delete_,bV K,kh,Result.andThen]
 ·obtain⟨w',Q,R,S,_⟩:=qk.del C Tryz.underlying64 k;have c:bf (λq=>d.ow q=-5/\q≠p.b) w w':=S.mono λq _ e=>by rw[e];exact⟨g,o⟩
  exact⟨w',λty=>by rw[f];exact Q ty,v w' c (af ⟨h,f,g,o,R⟩),c⟩
theorem Dn(a:Nat)(c:Option Nat)(x how:Int)(w w1:World)(R:World->Prop)(f:Hid (w.cell? ⟨a,3,none⟩=some (.map c)))(i:∀ty,(Builtin.delete_ #[64,3] ty #[.map c,.int .i64 x]).run Tryz.prog w=.ok (.tuple #[]) w1)(g:Hid (Calls Tryz.prog 35 #[.pointer (some ⟨a,0,none⟩),.string ⟨#[101,110,100]⟩,.int .i64 x,.int .i64 how,.agg #[.int .i64 0,.int .i64 0,.string ⟨#[]⟩,.slice none 0 0]] w1 λe w'=>e=.returned (.tuple #[])/\R w')):Calls Tryz.prog 62 #[.pointer (some ⟨a,0,none⟩),.int .i64 x,.int .i64 how] w λe w'=>e=.returned (.tuple #[])/\R w':=by
 have h:=f.out;go_enter Tryz.func62,Tryz.ntmps62;go_wp2_with fail;refine g.out.mono ?_;rintro e j ⟨rfl,b⟩;have d:=ai b;clear b;go_wp2_with fail;exact dP (v:=.tuple #[]) (by simp[results]) rfl ⟨rfl,d.out⟩
theorem aV.drop(g:aV p s d w)(x how:Int)(k:d.es.length<=100000):Calls Tryz.prog 62 #[.pointer (some ⟨p.b,0,none⟩),.int .i64 x,.int .i64 how] w λe w'=>e=.returned (.tuple #[])/\Hid (∃c,aV p (s.drop x how) c w'/\dE 1 d c w w'):=by
 obtain⟨f,m,h,n⟩:=g.del x;refine Dn p.b d.po x how w f _ g.cells.2.2.2 m ((h.tell pG x how 0 0 ⟨#[]⟩ none 0 0 KW (Fu f) k).mono λe w' a=>⟨a.1,?_⟩);obtain⟨c,i,j⟩:=a.2.out.up h;have o:dE 0 d {d with l:=d.l.eraseP λa=>a.1==x} w f:=⟨n.mono λa _ e=>by rw[e.1];decide,λ_ _=>rfl,rfl,ag _,ag _,ag _⟩;exact⟨c,i,(o.trans j).mono (ag _)⟩
end
theorem I5{w:World}{base:Nat}{e:TypeId}{sz:Nat}{v:Value}{n:Nat}{xs:List Value}(b:w.ownsRow base e sz v n xs):∃a c,v=.slice a n c:=by
 rcases b.2 with⟨rfl,rfl⟩|⟨f,c,d,rfl,_⟩
 ·exact⟨none,0,rfl⟩
 ·exact⟨_,c,rfl⟩
section
variable {p:lT} {s:Sy} {d:fW} {w:World}
theorem aV.parted(a:aV p s d w){x:Int}(u:dc x)(h:Bool):Calls Tryz.prog 63 #[.pointer (some ⟨p.b,5,none⟩),.int .i64 x,.bool h] w λe w'=>∃v,e=.returned v/\Hid (gS w.heap.size v (mD s.bonds x h) w'/\aV p {s with bonds:=wo s.bonds (x::mD s.bonds x h)} d w'/\dE 0 d d w w'):=by
 refine(Fb a.bd.1 a.bd.2.1 u h).mono ?_;rintro e w' ⟨v,rfl,l⟩;obtain⟨o,q,c⟩:=l.out;have f:∀b,d.ow b≠0->d.ow b=d.ow b:=λ_ _=>rfl;have j:∀b,d.ow b≠0->p.lo<=b/\b<w'.heap.size:=λb g=>⟨(a.low b g).1,aL (a.low b g).2 c.size⟩;have t:∀{t:Int},t≠ -2->∀b,d.ow b=t->¬d.bo=some b:=λr b e z=>r (e.symm.trans (a.bd.2.2 b z));have i:w'.heap[p.b]?=some (.cells (dK p s d) 73):=(c.block p.b a.lo.2 (t (by decide) p.b a.own)).trans a.box;obtain⟨y1,y2,y⟩:=a.wyK c (t (by decide)) f rfl (o8 i).1;obtain⟨m,n⟩:=a.evK c (t (by decide)) f;exact⟨v,rfl,o,⟨j,i,a.own,⟨a.pgK c (t (by decide)) f,a.pg.2⟩,a.pmK c (λb e _=>t (by decide) b e) f,a.keys,λk b g=>a.psK c (ag _) (t (by have:=(a.key g).1;omega)) f j g,⟨y1,y2,a.wy.2.2.1,a.wy.2.2.2.1,y⟩,⟨q,a.bd.2.1.wo _,a.bd.2.2⟩,m,a.evt.1,n⟩,c.mono λb _ e=>by rw[a.bd.2.2 b e];decide,λ_ _=>rfl,rfl,ag _,ag _,ag _⟩
theorem ID{g:Int×Int->Bool}(b:uq g)(x:Int)(a:Bool):(mD g x a).length<=99:=by
 unfold mD;split
 ·simp
 ·exact(mm b x).le
theorem FB(b:Nat)(x how:Int)(w:World)(l:List Int)(L:Nat)(h:Bool)(R:Option Addr->Nat->Nat->World->Prop)(D:L<=99)(z:Hid (l.length=L))(s:h=(how==1))(o:Hid (Calls Tryz.prog 62 #[.pointer (some ⟨b,0,none⟩),.int .i64 x,.int .i64 how] w λe w'=>e=.returned (.tuple #[])/\Hid (Calls Tryz.prog 63 #[.pointer (some ⟨b,5,none⟩),.int .i64 x,.bool h] w' λe w'=>∃a c,e=.returned (.slice a L c)/\Hid (R a c 0 w'))))(A:Hid (∀a c j W,R a c j W->(∀(i:Nat)(k:Int),l[i]?=some k->∃g,a=some ⟨g,0,none⟩/\W.cell? ⟨g,i,none⟩=some (.int .i64 k))/\∀y,l[j]?=some y->Calls Tryz.prog 62 #[.pointer (some ⟨b,0,none⟩),.int .i64 y,.int .i64 4] W λe w'=>e=.returned (.tuple #[])/\Hid (R a c (j+1) w'))):Calls Tryz.prog 37 #[.pointer (some ⟨b,0,none⟩),.int .i64 x,.int .i64 how] w λe w'=>e=.returned (.tuple #[])/\Hid (∃a c,R a c L w'):=by
 go_enter Tryz.func37,Tryz.ntmps37;go_wp2_with fail;refine o.out.mono ?_;rintro e I ⟨rfl,n⟩;have E:(how==1)=h:=s.symm;clear o s;go_wp2_with fail;refine n.out.mono ?_;rintro e J ⟨a,c,rfl,d⟩;clear n;go_wp2_with fail;go_loopw [7,20] (λ_ i wr=>∃j:Nat,j<=L/\i=.int .i64 j/\Hid (R a c j wr)) (λ_ i _=>L-(intOf i).toNat)
 case atStart=>exact⟨0,aD _,rfl,d.out⟩
 case round=>
 obtain⟨j,F,rfl,f⟩:=hrel;by_cases C:j<L
 ·obtain⟨y,m⟩:∃y,l[j]?=some y:=⟨l[j]'(by rw[z.out];exact C),aA _⟩;obtain⟨q,r⟩:=A.out a c j wr f.out;obtain⟨g,rfl,B⟩:=q j y m;have p:=ai (r y m);have G:(0:Int)<=(j:Int):=by omega
  have H:(j:Int)<(L:Int):=by omega
  clear q r m d;go_wp2_with fail;refine p.out.mono ?_;rintro e K ⟨rfl,t⟩;clear p B;go_wp2_with fail;go_roundw
  case rel=>exact⟨j+1,by omega,by go_num,t.out⟩
  case measure=>simp[intOf];omega
 ·obtain rfl:j=L:=by omega
  have u:=ai f.out;clear f d;go_wp2_with fail;exact dP (v:=.tuple #[]) (by simp[results]) rfl ⟨rfl,a,c,u.out⟩
theorem aV.fin(F:aV p s d w){x how:Int}(P:dc x)(ae:d.es.length<=99000):Calls Tryz.prog 37 #[.pointer (some ⟨p.b,0,none⟩),.int .i64 x,.int .i64 how] w λe w'=>e=.returned (.tuple #[])/\Hid (∃g,aV p (s.fin x how) g w'/\dE 100 d g w w'):=by
 have I:=ID F.bd.2.1 x (how==1);obtain⟨l,z⟩:∃l,l=mD s.bonds x (how==1):=⟨_,rfl⟩;rw[<-z]at I;refine(FB p.b x how w l l.length (how==1) (λf c B m=>∃g q,aV p ((l.take B).foldl (λs D=>s.drop D 4) {s.drop x how with bonds:=wo s.bonds (x::l)}) g m/\dE (1+B) d g w m/\gS q (.slice f l.length c) l m/\∀a,(Value.slice f l.length c).ownBlock=some a->g.ow a=0) I rfl rfl ?_ ?_).mono ?_
 ·refine(F.drop x how (by omega)).mono ?_;rintro e aj ⟨rfl,j⟩;obtain⟨d1,G,T⟩:=j.out;refine⟨rfl,(G.parted P (how==1)).mono ?_⟩;rintro e ak ⟨U,rfl,L⟩;obtain⟨v,K,S⟩:=L.out;have h:(s.drop x how).bonds=s.bonds:=rfl;rw[h,<-z]at v K;obtain⟨f,c,rfl⟩:∃f c,U=.slice f l.length c:=I5 v;refine⟨f,c,rfl,d1,_,K,(T.trans S).mono (by omega),v,λa A=>?_⟩;have ad:=(v.lt a A).1;by_cases H:d1.ow a=0
  ·exact H
  ·have:=(G.low a H).2;omega
 ·rintro f c B m ⟨g,q,r,t,u,E⟩;refine⟨λQ k n=>?_,λD J=>?_⟩
  ·obtain⟨W,X,e,o⟩:=u.row;injection e with h _ y;subst h y;rcases u.2 with⟨e,N⟩|⟨aa,Y,Z,e,_⟩
   ·rw[bK N]at n;simp at n
   ·injection e with h _ y;subst h y;rcases o with o|⟨ab,ai,e,ah,o⟩
    ·rw[o]at n;simp at n
    ·injection e with e;injection e with h O;subst h O;have:=o Q k n;rw[cU]at this;exact⟨_,rfl,this⟩
  ·have af:=(aK.1 J).1;refine(r.drop D 4 (by have:=t.2.2.2.1;omega)).mono ?_;rintro e w' ⟨rfl,j⟩;obtain⟨M,R,C⟩:=j.out;have A:∀a,(Value.slice f l.length c).ownBlock=some a->a<m.heap.size:=λa i=>(u.lt a i).2;refine⟨rfl,M,q,?_,(t.trans C).mono (by omega),aT u C.1 λa i V=>by rw[E a i]at V;omega,λa i=>(C.2.1 a (A a i)).trans (E a i)⟩;rw[dw,J,jN];exact R
 ·rintro e w' ⟨rfl,j⟩;obtain⟨f,c,g,q,r,t,_⟩:=j.out;refine⟨rfl,g,?_,t.mono (by omega)⟩;rw[bk (ag _)]at r;unfold Sy.fin;rw[<-z];exact r
end
section
variable {p:lT} {s:Sy} {d:fW} {w:World}
theorem aV.linkB(c:aV p s d w){x y:Int}(J:dc x)(K:dc y)(F:d.bn<1000000):Calls Tryz.prog 94 #[.pointer (some ⟨p.b,5,none⟩),.int .i64 x,.int .i64 y] w λe w'=>e=.returned (.int .i64 (qF x y))/\Hid (∃q,aV p {s with bonds:=if qF x y=0 then fT s.bonds (gn x y) true else s.bonds} q w'/\dE 1 d q w w'):=by
 refine(C6 c.bd.1 J K F).mono ?_;rintro e w' ⟨rfl,A⟩;obtain⟨o,f,g,D⟩:=A.out;have H:=g.size;have i:∀b,Il (JO p s d) d.bo b->b=p.b\/d.ow b=-2:=λb e=>e.imp id (c.bd.2.2 b);have G:o≠some p.b:=λe=>by
  subst e;exact f.ne rfl
 have t:∀{t:Int},t≠ -2->t≠ -5->∀b,d.ow b=t->¬Il (JO p s d) d.bo b:=λf E b e a=>by
  rcases i b a with a|a
  ·rw[a,c.own]at e;exact E e.symm
  ·exact f (e.symm.trans a)
 have r:w'.heap[p.b]?=some (.cells (dK p {s with bonds:=if qF x y=0 then fT s.bonds (gn x y) true else s.bonds} {d with ow:=CI d w w' (-2),bo:=o,bn:=d.bn+1}) 73):=by
  have:=f.2.1.2;simpa [JO,dK]using this
 have z:=si (t:=-2) c H c.lo.1;have h:=sj (w':=w') (t:=-2) c;obtain⟨B,C⟩:=o8 r;obtain⟨y1,y2,N⟩:=c.wyK g (t (by decide) (by decide)) h rfl B;obtain⟨l,m⟩:=c.evK g (t (by decide) (by decide)) h;refine⟨rfl,{d with ow:=CI d w w' (-2),bo:=o,bn:=d.bn+1},⟨z,r,(h p.b (by rw[c.own];decide)).trans c.own,⟨c.pgK g (t (by decide) (by decide)) h,c.pg.2⟩,c.pmK g (λb l m a=>?_) h,c.keys,λk b j=>c.psK g (ag _) (t (by have:=(c.key j).1;omega) (by have:=(c.key j).1;omega)) h z j,⟨y1,y2,c.wy.2.2.1,c.wy.2.2.2.1,N⟩,⟨?_,?_,λb e=>?_⟩,l,c.evt.1,m⟩,g.mono λb _ e=>?_,λj O=>if_neg (by omega),rfl,fw _,fw _,ag _⟩
 ·rcases i b a with a|a
  ·exact m a
  ·rw[l]at a;cases a
 ·exact⟨f.1,C,f.2.2⟩
 ·show uq (if qF x y=0 then fT s.bonds (gn x y) true else s.bonds);split
  ·rename_i n;intro k u;by_cases v:k=gn x y
   ·subst v;unfold qF at n;split at n
    ·rename_i I;obtain⟨L,M,P⟩:=I;simp only[l9,az,bN]at L M;unfold gn;simp only;omega
    ·cases n
   ·rw[bC _ _ v]at u;exact c.bd.2.1 k u
  ·exact c.bd.2.1
 ·rcases D b (af e)with a|a
  ·rcases i b a with a|a
   ·subst a;exact absurd e G
   ·exact(h b (by rw[a];decide)).trans a
  ·have:=(f.lt b (af e)).2;exact if_pos ⟨a,this⟩
 ·rcases i b e with a|a
  ·rw[a,c.own];decide
  ·rw[a];decide
theorem IV(d:Nat)(a b:Int)(r:Bool)(v:Int)(w:World)(R:World->Prop)(f:Hid (Calls Tryz.prog 40 #[.pointer (some ⟨d,0,none⟩),.int .i64 b] w λe w'=>e=.returned (.bool r)/\w'=w))(i:Hid (r=false->R w))(j:Hid (r=true->Calls Tryz.prog 94 #[.pointer (some ⟨d,5,none⟩),.int .i64 a,.int .i64 b] w λe w'=>e=.returned (.int .i64 v)/\Hid (R w'))):Calls Tryz.prog 65 #[.pointer (some ⟨d,0,none⟩),.int .i64 a,.int .i64 b] w λe w'=>e=.returned (.tuple #[])/\Hid (R w'):=by
 go_enter Tryz.func65,Tryz.ntmps65;go_wp2_with fail;refine f.out.mono ?_;rintro e k ⟨rfl,g⟩;obtain rfl:=g.symm;clear g f;cases r
 ·have c:=ai (i.out rfl);go_wp2_with fail;exact dP (v:=.tuple #[]) (by simp[results]) rfl ⟨rfl,c.out⟩
 ·have c:=ai (j.out rfl);go_wp2_with fail;refine c.out.mono ?_;rintro e l ⟨rfl,h⟩;go_wp2_with fail;exact dP (v:=.tuple #[]) (by simp[results]) rfl ⟨rfl,h.out⟩
theorem aV.link(f:aV p s d w){a b:Int}(g:dc a)(h:dc b)(i:d.bn<1000000):Calls Tryz.prog 65 #[.pointer (some ⟨p.b,0,none⟩),.int .i64 a,.int .i64 b] w λe w'=>e=.returned (.tuple #[])/\Hid (∃c,aV p (s.link a b) c w'/\dE 1 d c w w'):=by
 refine IV p.b a b (s.get b).isSome (qF a b) w (λw'=>∃c,aV p (s.link a b) c w'/\dE 1 d c w w') (f.isAlive b) (λe=>⟨d,?_,(dE.later d (ah _ _)).mono (aD _)⟩) λe=>?_
 ·unfold Sy.link;rw[e];exact f
 ·unfold Sy.link;rw[e];exact f.linkB g h i
end
section
variable {p:lT} {s:Sy} {d:fW} {w:World}
theorem GG{m:Nat}{x:Tm (m+1)}(c:bA (m+1) x=0)(a b:Int)(L:Nat):kP 12 a b (aI 13 (m+1) x) L=kP 12 a b (cn (m+1) x) L:=by
 have f:aB ⟨m+1,x⟩:=aJ.2 (bv.1 c).1;have e:=iF 13 (m+1) x f (by have:=(bv.1 c).2.1;omega);have d:=eL c;unfold kP;rw[bI e,cw _ _ _ _ e,bI d,cw _ _ _ _ d]
theorem aV.sendW(g:aV p s d w){a b:Int}(ak:I2 (a,b)){m:Nat}(x:Tm (m+1))(ap:In w.heap.size w (m+1) x)(A:bA (m+1) x=0)(am:d.wn<999999):Calls Tryz.prog 93 #[.pointer (some ⟨p.b,4,none⟩),.int .i64 a,.int .i64 b,dg (m+1) x] w λe w'=>e=.returned (.int .i64 (kP 12 a b (cn (m+1) x) (s.ways (a,b)).length))/\Hid (∃o,aV p (if kP 12 a b (cn (m+1) x) (s.ways (a,b)).length=0 then {s with ways:=fT s.ways (a,b) (s.ways (a,b)++ [cn (m+1) x])}else s) o w'/\dE 1 d o w w'):=by
 have Z:aB ⟨m+1,x⟩:=aJ.2 (bv.1 A).1;have V:eW (m+1) x<13:=by have:=(bv.1 A).2.1;omega
 have aa:=iF 13 (m+1) x Z V;have W:(d.f (a,b)).length=(s.ways (a,b)).length:=by
  have:=congrArg List.length (g.wy.2.2.1 (a,b));simpa using this
 have aw:(d.f (a,b)).length<=20:=g.wy.2.2.2.1 _;have ao:dg (m+1) x=dg (12+1) (aI 13 (m+1) x):=(wL 12 m x).symm;rw[ao];have T:bA 13 (aI 13 (m+1) x)=0:=(bI aa).trans A;refine(GH (N:=12) g.wy.1 ak (aI 13 (m+1) x) (qH 13 (m+1) x _ _ Z V ap) (eU T) am (by omega)).mono ?_;rintro e w' ⟨rfl,y,Q⟩;rw[W,GG A]at y Q ⊢;refine⟨rfl,?_⟩;by_cases j:kP 12 a b (cn (m+1) x) (s.ways (a,b)).length=0;rotate_left
 ·rw[if_neg j];exact⟨d,g.later (y j),(dE.later d (y j)).mono (aD _)⟩
 rw[if_pos j];obtain⟨n,L,sl,ab,C,r,K,ad,aq⟩:=Q j;have R:aF 13 (cn (m+1) x)=true/\(s.ways (a,b)).length<20:=by
  unfold kP gg at j;split at j
  ·cases j
  ·split at j
   ·rename_i i;exact absurd j i
   ·split at j
    ·cases j
    ·rename_i i;split at j
     ·cases j
     ·exact⟨by simpa using i,by omega⟩
 have S:cn 13 n=cn (m+1) x:=(gw ab).trans (gw aa);have U:bA 13 n=0:=(bI ab).trans T;have al:aF 13 n=true:=by
  have:=cw _ _ _ _ (eL U);rw[S]at this;exact this.symm.trans R.1
 have an:=r.size;have B:=g.wy.2.1;have t:∀{t:Int},t≠ -1->t≠ -5->∀b,d.ow b=t->¬qg (xJ p s d) d.wo d.sl b:=λy aj b e c=>by
  rcases B b c with c|c
  ·rw[c,g.own]at e;exact aj e.symm
  ·exact y (e.symm.trans c)
 obtain⟨o,v⟩:∃o,o={d with ow:=CI d w w' (-1),wo:=L,wn:=d.wn+1,f:=fT d.f (a,b) (d.f (a,b)++ [n]),sl:=sl}:=⟨_,rfl⟩;obtain⟨E,I⟩:∃E,E={s with ways:=fT s.ways (a,b) (s.ways (a,b)++ [cn (m+1) x])}:=⟨_,rfl⟩;have H:w'.heap[p.b]?=some (.cells (dK p E o) 73):=by
  have:=C.2.1.2;rw[I,v];simpa [xJ,dK]using this
 have X:=si (t:=-1) g an g.lo.1;have q:=sj (w':=w') (t:=-1) g;obtain⟨O,P⟩:=o8 H;rw[v]at P;have ax:∀h,qg (xJ p E o) L sl h->qg (xJ p s d) d.wo d.sl h\/w.heap.size<=h:=K;obtain⟨F,G⟩:=g.evK r (t (by decide) (by decide)) q;refine⟨o,?_,?_⟩
 ·rw[<-I,v];rw[I]at*;refine⟨X,by rw[v]at H;exact H,(q p.b (by rw[g.own];decide)).trans g.own,⟨g.pgK r (t (by decide) (by decide)) q,g.pg.2⟩,g.pmK r (λb F G c=>?_) q,g.keys,λk b h=>g.psK r (ag _) (t (by have:=(g.key h).1;omega) (by have:=(g.key h).1;omega)) q X h,⟨?_,λh c=>?_,λk=>?_,λk=>?_,λk c i=>?_⟩,g.bdK r (t (by decide) (by decide)) q rfl P,F,g.evt.1,G⟩
  ·rcases B b c with c|c
   ·exact G c
   ·rw[F]at c;cases c
  ·rw[v]at O;exact⟨C.1,O,C.2.2⟩
  ·rcases K h c with z|z
   ·exact(B h z).imp id λe=>(q h (by rw[e];decide)).trans e
   ·exact af (if_pos ⟨z,(C.lt h c).2⟩)
  ·by_cases l:k=(a,b)
   ·subst l;show (fT d.f (a,b) (d.f (a,b)++ [n]) (a,b)).map (cn 13)=fT s.ways (a,b) (s.ways (a,b)++ [cn (m+1) x]) (a,b);rw[cr,cr,ft,g.wy.2.2.1,aH,bQ,S]
   ·show (fT d.f (a,b) (d.f (a,b)++ [n]) k).map (cn 13)=fT s.ways (a,b) (s.ways (a,b)++ [cn (m+1) x]) k;rw[bC _ _ l,bC _ _ l];exact g.wy.2.2.1 k
  ·by_cases l:k=(a,b)
   ·subst l;show (fT d.f (a,b) (d.f (a,b)++ [n]) (a,b)).length<=20;rw[cr,aX,W];have:=R.2;simp;omega
   ·show (fT d.f (a,b) (d.f (a,b)++ [n]) k).length<=20;rw[bC _ _ l];exact g.wy.2.2.2.1 k
  ·have i:c∈fT d.f (a,b) (d.f (a,b)++ [n]) k:=i;have Y:∀J,∀c∈d.f J,bA 13 c=0/\aF 13 c=true/\In w'.heap.size w' 13 c/\ch (λh=>CI d w w' (-1) h=-1/\¬qg (xJ p s d) L sl h) 13 c:=λJ c i=>by
    obtain⟨ar,au,ae,av⟩:=g.wy.2.2.2.2 J c i;have ah:=eX r (D:=λh=>(d.ow h=-1/\¬qg (xJ p s d) d.wo d.sl h)/\h<w.heap.size) (λh z M=>z.1.2 M) ⟨ae,In.offB av ae⟩;refine⟨ar,au,ah.1,ah.2.mono λh u=>⟨(q h (by rw[u.1.1];decide)).trans u.1.1,λM=>?_⟩⟩;rcases K h M with ai|ai
    ·exact u.1.2 ai
    ·omega
   by_cases l:k=(a,b)
   ·subst l;rw[cr]at i;rcases di.1 i with i|i
    ·exact Y _ c i
    ·obtain rfl:=dj.1 i;exact⟨U,al,ad,(In.offB aq ad).mono λh u=>⟨if_pos ⟨u.1.1,u.2⟩,u.1.2⟩⟩
   ·rw[bC _ _ l]at i;exact Y _ c i
 ·rw[v]
  exact⟨r.mono λb _ e=>by
   rcases B b e with c|c
   ·rw[c,g.own];decide
   ·rw[c];decide,λh ay=>if_neg (by omega),rfl,fw _,ag _,fw _⟩
end
theorem fF{w w':World}(b:Below w.heap.size w w'){q:Nat}{o:Obj}(a:w.heap[q]?=some o):w'.heap[q]?=some o:=(b.block q (aE.1 a).1).trans a
theorem BN(x:Nat)(a b c d:Int)(f:ByteArray)(xa:Option Addr)(g xc:Nat)(v:Int)(w:World)(C R:World->Prop)(A:Hid (∀W,Below w.heap.size w W->Calls Tryz.prog 93 #[.pointer (some ⟨x,4,none⟩),.int .i64 a,.int .i64 b,.agg #[.int .i64 c,.int .i64 d,.string f,.slice xa g xc]] W λe w'=>e=.returned (.int .i64 v)/\Hid (C w'/\∀q,w.heap.size<=q->q<W.heap.size->w'.heap[q]?=W.heap[q]?)))(B:Hid (∀W,C W->Calls Tryz.prog 35 #[.pointer (some ⟨x,0,none⟩),.string (if v=0 then ⟨#[115,101,110,100]⟩else ⟨#[108,111,115,116]⟩),.int .i64 a,.int .i64 b,.agg #[.int .i64 c,.int .i64 d,.string f,.slice xa g xc]] W λe w'=>e=.returned (.tuple #[])/\Hid (R w'))):Calls Tryz.prog 64 #[.pointer (some ⟨x,0,none⟩),.int .i64 a,.int .i64 b,.agg #[.int .i64 c,.int .i64 d,.string f,.slice xa g xc]] w λe w'=>e=.returned (.tuple #[])/\Hid (R w'):=by
 go_enter Tryz.func64,Tryz.ntmps64;go_upto_region 1 with fail;generalize D:w.alloc _=h;have n:Hid (Below w.heap.size w h/\h.heap[w.heap.size]?=some (.cells #[.int .i64 c,.int .i64 d,.string f,.slice xa g xc] 30)):=by
  rw[<-D];exact⟨(ah _ _).alloc (ag _) _,ax _ _⟩
 clear D;obtain⟨q,m⟩:∃q,q=w.heap.size:=⟨_,rfl⟩;rw[<-m];have s:Hid (h.heap[q]?=some (.cells #[.int .i64 c,.int .i64 d,.string f,.slice xa g xc] 30)):=by rw[m];exact n.out.2
 have HB:=ai n.out.1;have E:=ai m;clear m n;have r:Hid (Below h.heap.size h h.drew):=(ah _ _).drew;have z:=ai (HB.out.trans (r.out.mono HB.out.size));have k:=ai (fF r.out s.out);have i:Hid (∀W:World,W.heap[q]?=some (.cells #[.int .i64 c,.int .i64 d,.string f,.slice xa g xc] 30)->W.cell? ⟨q,0,none⟩=some (.int .i64 c)/\W.cell? ⟨q,1,none⟩=some (.int .i64 d)/\W.cell? ⟨q,2,none⟩=some (.string f)/\W.cell? ⟨q,3,none⟩=some (.slice xa g xc)):=λW l=>⟨ab l 0,ab l 1,ab l 2,ab l 3⟩;obtain⟨F,G,H,I⟩:=i.out h s.out
 go_region_held3 (λW=>W.cell? ⟨q,0,none⟩=some (.int .i64 c)/\W.cell? ⟨q,1,none⟩=some (.int .i64 d)/\W.cell? ⟨q,2,none⟩=some (.string f)/\W.cell? ⟨q,3,none⟩=some (.slice xa g xc))
  (first|exact i.out _ k.out|exact i.out _ t.out) ((first
   | (go_at_call 93;refine(A.out _ z.out).mono ?_;rintro e y ⟨rfl,o⟩;have t:Hid (y.heap[q]?=some (.cells #[.int .i64 c,.int .i64 d,.string f,.slice xa g xc] 30)):=(o.out.2 q (by have:=E.out;omega) (aE.1 k.out).1).trans k.out)))
 obtain⟨K,d1,L,M⟩:=i.out y t.out;have j:=ai (B.out y o.out.1);clear F G H I A B i o t k z r HB s;by_cases u:v=0
 ·subst u;rw[if_pos rfl]at j;go_wp2_with fail;refine j.out.mono ?_;rintro e J ⟨rfl,p⟩;go_wp2_with fail;exact dP (v:=.tuple #[]) (by simp[results]) rfl ⟨rfl,p.out⟩
 ·rw[if_neg u]at j;have N:(v==0)=false:=by simpa using u
  go_wp2_with fail;refine j.out.mono ?_;rintro e J ⟨rfl,p⟩;go_wp2_with fail;exact dP (v:=.tuple #[]) (by simp[results]) rfl ⟨rfl,p.out⟩
section
variable {p:lT} {s:Sy} {d:fW} {w:World}
def CW(d:fW)(w:World){m:Nat}(x:Tm m):Prop:=In w.heap.size w m x/\ch (λq=>0<=d.ow q) m x
theorem CW.up{a m:Nat}{x:Tm m}{f:fW}{w':World}(c:CW d w x)(k:dE a d f w w'):CW f w' x:=by
 have g:=eX k.1 (D:=λb=>0<=d.ow b/\b<w.heap.size) (λb e h=>by omega) ⟨c.1,In.offB c.2 c.1⟩;exact⟨g.1,g.2.mono λb e=>by rw[k.2.1 b e.2];exact e.1⟩
theorem aV.send(o:aV p s d w){a b:Int}(A:I2 (a,b)){m:Nat}(x:Tm (m+1))(t:CW d w x)(q:bA (m+1) x=0)(B:d.wn<999999)(E:d.es.length<100000):Calls Tryz.prog 64 #[.pointer (some ⟨p.b,0,none⟩),.int .i64 a,.int .i64 b,dg (m+1) x] w λe w'=>e=.returned (.tuple #[])/\Hid (∃j,aV p (s.send a b (cn (m+1) x)) j w'/\dE 2 d j w w'):=by
 obtain⟨i,r⟩:∃i,i=kP 12 a b (cn (m+1) x) (s.ways (a,b)).length:=⟨_,rfl⟩;refine BN p.b a b x.1.1 x.1.2.1 x.1.2.2 x.2.1.1 x.2.2.length x.2.1.2 i w (λc=>∃d1,aV p (if i=0 then {s with ways:=fT s.ways (a,b) (s.ways (a,b)++ [cn (m+1) x])}else s) d1 c/\dE 1 d d1 w c) (λc=>∃j,aV p (s.send a b (cn (m+1) x)) j c/\dE 2 d j w c) (λc g=>?_) λc g=>?_
 ·refine((o.later g).sendW A x ((t.1.below g).mono g.size) q B).mono ?_;rintro e w' ⟨rfl,k⟩;rw[<-r]at k ⊢;obtain⟨d1,n,h⟩:=k.out;refine⟨rfl,⟨d1,n,((dE.later d g).trans h).mono (ag _)⟩,λu D z=>h.1.block u z λF=>?_⟩;have:=(o.low u (by omega)).2;omega
 ·obtain⟨d1,n,h⟩:=g;have C:=t.up h;refine(n.tell (if i=0 then kU else fQ) a b x.1.1 x.1.2.1 x.1.2.2 x.2.1.1 x.2.2.length x.2.1.2 (cn (m+1) x) (jC C.1 q) (by have:=h.2.2.2.1;omega)).mono ?_;rintro e w' ⟨rfl,k⟩;obtain⟨v,f,y⟩:=k.out.up n;refine⟨rfl,v,?_,(h.trans y).mono (ag _)⟩;unfold Sy.send;rw[<-r];by_cases l:i=0
  ·rw[if_pos l]at f ⊢;rw[if_pos l]at f;exact f
  ·rw[if_neg l]at f ⊢;rw[if_neg l]at f;exact f
end
end Go.Proofs.YtnidfceinoiboaaGreat
