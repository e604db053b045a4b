/- What is proved here: plain facts and contracts that the claimed theorem stands on. No condition but those that each names. -/
import Derived.Test.YtnidfceinoiboaaGreatG39
namespace Go.Proofs.YtnidfceinoiboaaGreat
open Go.RowKit
open Go.RowKit Go.Maps
set_option maxRecDepth 100000
set_option maxHeartbeats 2000000
def CY(f:Tk)(t:T8)(d:fW)(W:World):Prop:=
 ∃(h g:Nat)(c:List (Int×Tm (h+1)))(e:List (Int×ByteArray×Tm (h+1))),(c.length=t.sl/\e.length=t.pl/\f.links.length=t.kl)/\W.ownsRow g 153 5 (.slice t.sa t.sl t.sc) t.sl (c.flatMap λa=>JN a.1 a.2)/\W.ownsRow g 150 6 (.slice t.pa t.pl t.pc) t.pl (e.flatMap λa=>KI a.1 a.2.1 a.2.2)/\W.ownsRow g 3 1 (.slice t.ka t.kl t.kc) t.kl (f.links.map λi=> .int .i64 i)/\
  c.map (λa=>(a.1,cn _ a.2))=f.sends/\e.map (λa=>(a.1,a.2.1,cn _ a.2.2))=f.spawns/\(∀a∈c,bA _ a.2=0/\CW d W a.2)/\(∀a∈e,bA _ a.2.2=0/\CW d W a.2.2)/\∀b,((Value.slice t.sa t.sl t.sc).ownBlock=some b\/(Value.slice t.pa t.pl t.pc).ownBlock=some b\/(Value.slice t.ka t.kl t.kc).ownBlock=some b)->b<W.heap.size/\0<=d.ow b
theorem CY.kee{n:Tk}{t:T8}{d h:fW}{W g:World}(s:CY n t d W)(b:bf (λq=>d.ow q<0) W g)(m:∀q,q<W.heap.size->h.ow q=d.ow q):CY n t h g:=by
 obtain⟨p,r,A,B,e,u,v,w,x,y,k,l,f⟩:=s;have hF:∀{z:Nat}{o:Tm z},CW d W o->CW h g o:=λj=>by
  have e:=eX b (D:=λq=>0<=d.ow q/\q<W.heap.size) (λq a C=>by omega) ⟨j.1,In.offB j.2 j.1⟩;exact⟨e.1,e.2.mono λq a=>by rw[m q a.2];exact a.1⟩
 have i:∀q,((Value.slice t.sa t.sl t.sc).ownBlock=some q\/(Value.slice t.pa t.pl t.pc).ownBlock=some q\/(Value.slice t.ka t.kl t.kc).ownBlock=some q)->¬d.ow q<0:=λq a=>by have:=(f q a).2;omega
 exact⟨p,r,A,B,e,aT u b λq a=>i q (ae a),aT v b λq a=>i q (af (ae a)),aT w b λq a=>i q (af (af a)),x,y,λa c=>⟨(k a c).1,hF (k a c).2⟩,λa c=>⟨(l a c).1,hF (l a c).2⟩,λq a=>⟨aL (f q a).1 b.size,by rw[m q (f q a).1];exact(f q a).2⟩⟩
def Mo(t:T8):Obj:=.cells #[.int .i64 t.y0,.int .i64 t.y1,.string t.y2,.slice t.ya t.yl t.yc,.int .i64 t.f,.slice t.sa t.sl t.sc,.slice t.pa t.pl t.pc,.slice t.ka t.kl t.kc] 99
section
variable {p:lT} {s:Sy} {d:fW} {w:World}
theorem fe.ug{M:Nat->Prop}{k b c:Nat}{d1 e:fW}{w1 w2:World}(m:fe k c d d1 w w1)(g:oG M b d1 e w1 w2)(n:∀q,M q->w.heap.size<=q):fe (k+b) c d e w w2:=by
 obtain⟨f,h,u,v,x,y⟩:=m;obtain⟨j,l,_,p,r,s,t⟩:=g;have z:=f.size;exact⟨f.trans j λq a i=>by rw[h q a]at i;omega,λq a=>(l q (by omega) λo=>by have:=n q o;omega).trans (h q a),by omega,by omega,by omega,by omega⟩
def Lh(p:lT)(s:Sy)(d:fW)(w:World)(a:Tk)(q:Nat)(t:T8)(d1:fW)(W:World):Prop:=
 aV p s d1 W/\fe 1 402 d d1 w W/\(w.heap.size<=q/\q<W.heap.size/\d1.ow q=0/\W.heap[q]?=some (Mo t))/\t.f=a.fate/\CY a t d1 W
theorem aV.run(q:aV p s d w){a:Int}(aP:dc a)(cr:d.k<=46000)(co:d.es.length<=96000)(cx:d.wn<=800000)(cq:d.bn<=800000):Calls Tryz.prog 17 #[.pointer (some ⟨p.b,0,none⟩),.int .i64 a] w λe w'=>∃v,e=.returned (.int .i64 v)/\Hid (v=(s.run p.n p.prog p.room a).2/\∃E,aV p (s.run p.n p.prog p.room a).1 E w'/\fe 201 402 d E w w'):=by
 obtain⟨bO,aT⟩:=q.lo;obtain⟨a5,cj,a6,a7⟩:=q.cells;obtain⟨_,_,_,cl,cm,_⟩:=q.keys;have bg:jy (p.n+1) p.prog=true:=(iL q.pg.2.2.2.1).1;have bd:IntKind.i64.wrap (s.last+1)=s.last+1:=by rw[IntKind.wrap];simp[IntKind.bits,IntKind.signed];omega
 have ai:=q.look a true;have ax:=q.alive a;rw[if_pos rfl]at ai;obtain⟨P,m⟩:∃P,P=s.run p.n p.prog p.room a:=⟨_,rfl⟩;rw[<-m];unfold Sy.run at m;cases hg:s.get a with
 | none=>
  rw[hg]at m ax;rw[ax]at ai;have bx:(4:Int)=P.2/\∃E,aV p P.1 E w/\fe 201 402 d E w w:=by
   rw[m];exact⟨rfl,d,q,(dE.later d (ah _ _)).un.mono (aD _) (aD _)⟩
  exact vF p.b d.po a s.last (s.last+1) p.pa p.prog.length p.pc _ false w (λ_ _ _ _=>False) (λ_ _ _=>False) (λ_ _ _ _ _=>False) (λv w'=>v=P.2/\∃E,aV p P.1 E w'/\fe 201 402 d E w w') bd aT ⟨a5,a6,a7⟩ ai (λ_=>bx) ((λg=>by cases g)) (λ_ _ _ _ ⟨_,_,_,g,_⟩=>g.elim) (λ_ _ _ ⟨_,_,_,g,_⟩=>g.elim) (λ_ _ _ g=>g.elim) (λ_ _ _ g=>g.elim) (λ_ _ _ _ _ g=>g.elim) (λ_ _ _ _ _ g=>g.elim) (λ_ _ _ _ g=>g.elim) λ_ _ _ _ g=>g.elim
 | some ao=>
  obtain⟨B,ad,W⟩:=ao;rw[hg]at m ax;obtain⟨bs,aA⟩:=fL.1 ax;rw[aA]at ai;obtain⟨b7,bF,bE,aq,bI,ck⟩:=q.ps a bs aA;rw[hg]at aq;obtain⟨rfl,rfl,rfl⟩:B=b7/\ad=bF/\W=bE:=by
   injection aq with aq;injection aq with z u;injection u with u bG;exact⟨z,u,bG⟩
  have cp:=(q.key aA).1;obtain⟨U,aO⟩:∃U,U=qR p.n p.room p.prog B a (s.last+1) ad W:=⟨_,rfl⟩;simp only[<-aO]at m;have az:∀h,w.heap.size<=h->d.ow h=0:=λh aR=>by
   by_cases g:d.ow h=0
   ·exact g
   ·have:=(q.low h g).2;omega
  refine vF p.b d.po a s.last (s.last+1) p.pa p.prog.length p.pc _ true w
   (λt aa l w'=>(aa≠0/\aa=U/\Below l.heap.size l w')\/(aa=0/\U=0/\∃(r:Tc)(i:Tk)(J:Nat),(r.1=(t.y0,t.y1,t.y2)/\r.2.1=(t.ya,t.yc)/\r.2.2.length=t.yl)/\ng p.room p.prog B a (s.last+1) ad W=some i/\t.f=i.fate/\cn 13 r=i.message/\bA 13 r=0/\In w'.heap.size w' 13 r/\ch (λh=>l.heap.size<=h/\h<J) 13 r/\bD (λh=>d.ow h=a) l w'/\l.heap.size<J/\P1 p.lo bs B p.room i.state i.mail (d.k+201+402) (λb=>(d.ow b=a\/J<=b)/\b<w'.heap.size) w'/\i.mail.length<=W.length/\kS (l.heap.size+1) i.sends i.spawns i.links t.sa t.sl t.sc t.pa t.pl t.pc t.ka t.kl t.kc (λ_=>True) w'))
   (λh t l=>∃i d1,U=0/\ng p.room p.prog B a (s.last+1) ad W=some i/\Lh p ((s.put a (B,i.state,i.mail)).tell ey a 0 i.message) d w i h t d1 l)
   (λh t v b l=>∃i d1,U=0/\ng p.room p.prog B a (s.last+1) ad W=some i/\Lh p ((s.put a (B,i.state,i.mail)).tell ey a 0 i.message) d w i h t d1 l/\b=Sy.made p.n p.prog p.room ((s.put a (B,i.state,i.mail)).tell ey a 0 i.message) i.spawns/\(b=true->∃V aK aM c,v=.slice aK t.pl aM/\V.length=t.pl/\w.heap.size<=c/\(∀h,c<=h->d1.ow h=0)/\l.ownsRow c 65 1 v t.pl (V.map xI)/\ld p.lo p.room (d1.k+201) (λh=>v.ownBlock=some h) l.heap.size l i.spawns V c))
   (λv w'=>v=P.2/\∃E,aV p P.1 E w'/\fe 201 402 d E w w') bd aT ⟨a5,a6,a7⟩ (by rw[ai];rfl) ((λg=>by cases g)) (λ_ l aw=>?_) (λh t aa l aN bm=>?_) (λh t l aN=>?_) (λh t l F=>?_) (λh t l F=>?_) (λh t v b l F=>?_) (λh t v b l F N=>?_) (λh t v l F N=>?_) λh t v l F N=>?_
  ·have X:=q.later aw;have J:=bZ (dH (p.n+1)) 2 (nr (p.n+1)) p.pa;refine((bI.later aw).step p.prog p.pa p.pc l.heap.size X.pg.1.1 (ag _) q.pg.2.1 q.pg.2.2.1 (λ_=>q.pg.2.2.2.2) (λbz av=>J.2.2.1 _ _ _ bz _ (λb h=>av.block b h.2 λg=>by have:=h.1;rw[g]at this;omega) (J.2.1 _ _ _ _ X.pg.1.2 X.pg.1.1) X.pg.1.1) (au bO aw.size) (by omega) (by omega) a (s.last+1)).mono ?_;rintro e w' (⟨aa,rfl,y⟩|⟨r,f,sa,sl,sc,pa,pl,pc,ka,kl,kc,rfl,y⟩)
   ·obtain⟨K,S,G⟩:=y.out;have bb:=(X.later G).cells;exact⟨⟨0,0,⟨#[]⟩,none,0,0,0,none,0,0,none,0,0,none,0,0⟩,aa,rfl,ae ⟨K,S.trans aO.symm,G⟩,λh _ aR=>G.block h aR,G.size,bb.1,bb.2.2.1⟩
   ·obtain⟨i,J,K,S,G,ak,L,bV,bW,aG,bX,bU⟩:=y.out;have ba:w'.heap[p.b]?=some (.cells (dK p s d) 73):=(aG.block p.b (aL aT aw.size) (by rw[q.own];omega)).trans X.box;exact⟨⟨r.1.1,r.1.2.1,r.1.2.2,r.2.1.1,r.2.2.length,r.2.1.2,f,sa,sl,sc,pa,pl,pc,ka,kl,kc⟩,0,rfl,af ⟨rfl,aO.trans K,r,i,J,⟨rfl,rfl,rfl⟩,S,G,ak,L,bV,bW,aG,bX,bU⟩,λh ar bJ=>aG.block h bJ (by rw[az h ar];omega),aG.size,ab ba 0,ab ba 2⟩
  ·obtain⟨Q,an,K,S,G,ak,L⟩:=aN;rcases S with⟨_,e,bY⟩|⟨e,_⟩
   ·rw[if_neg (by rw[<-e];exact bm)]at m;have av:bf (λb=>b=h) w l:=((aC K λb=>b=h).trans (aC bY λb=>b=h) λ_ _ e=>e).trans L λ_ _ e=>e;rw[m];exact⟨e,d,q.kept av λb g=>by rw[g];exact az h G.1,av.mono λb ay g=>by omega,λ_ _=>rfl,by omega,by omega,by omega,by omega⟩
   ·exact absurd e bm
  ·obtain⟨Q,an,K,S,G,ak,L⟩:=aN;rcases S with⟨e,_⟩|⟨_,bK,r,i,J,⟨a8,a9,bH⟩,b0,b2,b3,b4,bo,b5,Z,cz,bp,cy,b1⟩
   ·exact absurd rfl e
   have bN:bf (λh=>d.ow h=a) Q an:=⟨Z.os,Z.tape,Z.output,Z.size,Z.block⟩;have ct:=K.size;have cu:=Z.size;have cv:=L.size
   obtain⟨bt,bu⟩:=(q.later K).turnP aA hg bN (j:=d.k+402) (λh g=>by
    rcases g.1 with g|g
    ·exact ae g
    ·exact af (by omega)) (by omega) (bp.mono (λ_ g=>g) (by omega) (P1.lie2 bp)) (by omega)
   generalize aQ:({d with ow:=CI d Q an a,k:=d.k+402}:fW)=d1 at bt bu;have be:∀b,d1.ow b=if Q.heap.size<=b/\b<an.heap.size then a else d.ow b:=λb=>by rw[<-aQ];rfl
   have aS:d1.ow h=0:=by
    rw[be,if_neg (by omega)];exact az h G.1
   have bh:∀b,Q.heap.size<=b->0<=d1.ow b:=λb ay=>by
    rw[be];split
    ·omega
    ·rw[az b (by omega)];exact il 0
   have ar:aV p (s.put a (B,i.state,i.mail)) d1 l:=bt.kept L λb g=>by rw[g];exact aS
   have bS:fe 0 402 d d1 w l:=by
    have z:=((dE.later d K).un.trans bu);obtain⟨ca,cb,cc,cd,ce,cf⟩:=z;exact⟨ca.trans L λb ay g=>by omega,cb,by rw[<-aQ]at cc ⊢;show d.k+402<=_;omega,cd,ce,cf⟩
   have bT:=eX L (D:=λb=>Q.heap.size<=b/\b<an.heap.size) (λb g ci=>by omega) ⟨bo,In.offB (b5.mono λb g=>g.1) bo⟩;have bL:CY i t d1 l:=by
    obtain⟨ap,aI,aJ,A,o,x,H,T,O,al,a2,b6⟩:=b1.kept L λb cg _ cB cC=>by omega
    have bc:∀{a1:Nat}{ao:Tm a1},In l.heap.size l a1 ao->ch (λb=>Q.heap.size+1<=b/\True) a1 ao->CW d1 l ao:=λbB bC=>⟨bB,bC.mono λb g=>bh b (by omega)⟩;refine⟨ap,_,aI,aJ,A,o,x,H,T,O,λg I=>⟨(al g I).1,bc (al g I).2.1 (al g I).2.2⟩,λg I=>⟨(a2 g I).1,bc (a2 g I).2.1 (a2 g I).2.2⟩,λb g=>⟨?_,bh b (by have:=(b6 b g).1;omega)⟩⟩;rcases g with g|g|g
    ·exact(o.lt b g).2
    ·exact(x.lt b g).2
    ·exact(H.lt b g).2
   obtain⟨⟨cA,cg,ci⟩,⟨cD,cE⟩,cF⟩:=r;simp only[gN]at a8 a9;obtain⟨rfl,rfl,rfl⟩:=a8;obtain⟨rfl,rfl⟩:=a9;rw[<-bH];have bM:d1.es=d.es:=by rw[<-aQ]
   refine(ar.tell ey a 0 _ _ _ _ _ _ _ (jC bT.1 b4) (by rw[bM];omega)).mono ?_;rintro e w' ⟨rfl,y⟩;obtain⟨R,M,C⟩:=y.out.up ar;have bi:=(aE.1 ak).1;have cw:=C.1.size;rw[b3]at M;refine⟨rfl,i,R,bK,b0,M,(bS.trans C.un).mono (by omega) (by omega),⟨G.1,by omega,by rw[C.2.1 h bi];exact aS,?_⟩,b2,bL.kee C.1 C.2.1⟩;rw[C.1.block h bi (by rw[aS];decide)];exact ak
  ·obtain⟨i,d1,z,u,⟨A,o,x,H,T⟩⟩:=F;obtain⟨ap,a4,aI,aJ,Y,aW,aX,aY,aZ,aj,a0,aB,aF⟩:=T;have aU:=GR bg u;have cs:t.pl<=8:=by
    have:=aU.1.2.1;rw[<-aj,dO]at this;omega
   refine(A.made aX Y.2.1 (by omega) λg I=>⟨(aB g I).1,(aB g I).2.1⟩).mono ?_;rintro e w' ⟨v,b,rfl,y⟩;obtain⟨am,bq,br⟩:=y.out;rw[aj]at bq br;have bQ:∀h,l.heap.size<=h->d1.ow h=0:=λh aR=>by
    by_cases g:d1.ow h=0
    ·exact g
    ·have:=(A.low h g).2;omega
   refine⟨v,b,rfl,i,d1,z,u,⟨A.later am,(o.trans (dE.later d1 am).un).mono (ag _) (ag _),⟨x.1,aL x.2.1 am.size,x.2.2.1,fF am x.2.2.2⟩,H,CY.kee ⟨ap,a4,aI,aJ,Y,aW,aX,aY,aZ,aj,a0,aB,aF⟩ (aC am _) λ_ _=>rfl⟩,bq,λay=>?_⟩;obtain⟨V,aK,aM,b8,a3,bv,aH⟩:=br ay;exact⟨V,aK,aM,l.heap.size,b8,a3,o.1.size,bQ,bv,aH⟩
  ·obtain⟨i,d1,z,u,A,o,x,_⟩:=F;exact x.2.2.2
  ·obtain⟨i,d1,z,u,⟨A,o,x,_⟩,_⟩:=F;exact x.2.2.2
  ·obtain⟨i,d1,z,u,⟨A,o,x,H,T⟩,_⟩:=F;rw[if_pos z,u]at m;simp only at m;rw[H]at N ⊢;rw[if_pos N]at m;refine(A.fin aP (by have:=o.2.2.2.1;omega)).mono ?_;rintro e w' ⟨rfl,y⟩;obtain⟨R,M,C⟩:=y.out;rw[m];exact⟨rfl,rfl,R,M,(o.trans C.un).mono (by omega) (by omega)⟩
  ·obtain⟨i,d1,z,u,⟨A,o,x,H,T⟩,O,_⟩:=F;rw[if_pos z,u]at m;simp only at m;rw[H]at N;rw[if_neg N,if_pos O.symm]at m;have bj:=congrArg Prod.fst m;have bk:=congrArg Prod.snd m;dsimp only at bj bk;refine(A.fin (how:=2) aP (by have:=o.2.2.2.1;omega)).mono ?_;rintro e w' ⟨rfl,y⟩;obtain⟨R,M,C⟩:=y.out;rw[<-bj]at M;exact⟨rfl,bk.symm,R,M,(o.trans C.un).mono (by omega) (by omega)⟩
  ·obtain⟨i,d1,z,u,⟨A,o,x,H,T⟩,O,al⟩:=F;rw[if_pos z,u]at m;simp only at m;rw[H]at N;have bR:¬Sy.made p.n p.prog p.room ((s.put a (B,i.state,i.mail)).tell ey a 0 i.message) i.spawns=false:=λg=>Bool.noConfusion (O.trans g);rw[if_neg N,if_neg bR]at m;obtain⟨V,aK,aM,c,rfl,a3,bv,aH,bw,b9⟩:=al rfl;obtain⟨ap,a4,aI,aJ,Y,aW,aX,aY,aZ,aj,a0,aB,aF⟩:=T;have aU:=GR bg u;have bl:i.spawns.length=t.pl:=by rw[<-aj,dO];exact Y.2.1
   have bP:Sy.may ((s.put a (B,i.state,i.mail)).tell ey a 0 i.message) t.pl=true:=by
    unfold Sy.made at O;rw[bl]at O;exact(Bool.and_eq_true_iff.1 O.symm).1
   have hF:=A.follow (pa:=t.pa) (pl:=t.pl) (pc:=t.pc) aP i aU t.y0 t.y1 t.y2 t.ya t.yl t.yc aW aY bw ⟨Y.1,Y.2.2,a3,bl⟩ aZ a0 (λb g=>?_) b9 (ag _) (λh g _=>aH h g) bP (by have:=o.2.2.1;omega) (by have:=o.2.2.2.1;omega) (by have:=o.2.2.2.2.1;omega) (by have:=o.2.2.2.2.2;omega)
   ·rw[<-H]at hF;refine hF.mono ?_;rintro e w' ⟨rfl,y⟩;obtain⟨R,M,C⟩:=y.out;rw[m];exact⟨rfl,rfl,R,M,o.ug C λh g=>by omega⟩
   ·rcases g with g|g|g
    ·exact(aF b (ae g)).2
    ·exact(aF b (af (af g))).2
    ·rw[aH b (bw.lt b g).1];exact il 0
end
theorem GF(o:Nat)(kd a b p q:Int)(r:ByteArray)(xa:Option Addr)(s xc:Nat)(w:World)(R:Int->World->Prop)(l:Hid (kd=1->∀W,Below w.heap.size w W->Calls Tryz.prog 17 #[.pointer (some ⟨o,0,none⟩),.int .i64 a] W λe w'=>∃v,e=.returned (.int .i64 v)/\Hid (R v w')))(h:Hid (kd=2->∀W,Below w.heap.size w W->Calls Tryz.prog 18 #[.pointer (some ⟨o,0,none⟩),.int .i64 a,.int .i64 b] W λe w'=>∃v,e=.returned (.int .i64 v)/\Hid (R v w')))(k:Hid (kd=3->∀W,Below w.heap.size w W->Calls Tryz.prog 19 #[.pointer (some ⟨o,0,none⟩),.int .i64 a,.agg #[.int .i64 p,.int .i64 q,.string r,.slice xa s xc]] W λe w'=>∃v,e=.returned (.int .i64 v)/\Hid (R v w')))(j:Hid (¬(kd=1\/kd=2\/kd=3)->∀W,Below w.heap.size w W->R 1 W)):Calls Tryz.prog 6 #[.pointer (some ⟨o,0,none⟩),.agg #[.int .i64 kd,.int .i64 a,.int .i64 b,.int .i64 p,.int .i64 q,.string r,.slice xa s xc]] w λe w'=>∃v,e=.returned (.int .i64 v)/\Hid (R v w'):=by
 go_enter Tryz.func6,Tryz.ntmps6;go_upto_region 1 with fail;generalize u:w.alloc _=c;have HB:Hid (Below w.heap.size w c):=by
  rw[<-u];exact(ah _ _).alloc (ag _) _
 have d:c.heap[w.heap.size]?=some (.cells #[.int .i64 kd,.int .i64 a,.int .i64 b,.int .i64 p,.int .i64 q,.string r,.slice xa s xc] 32):=by
  rw[<-u];exact ax _ _
 generalize w.heap.size=f at*;clear u;have B:c.cell? ⟨f,0,none⟩=some (.int .i64 kd):=ab d 0;have d1:c.cell? ⟨f,1,none⟩=some (.int .i64 a):=ab d 1;have C:c.cell? ⟨f,2,none⟩=some (.int .i64 b):=ab d 2;have D:c.cell? ⟨f,3,none⟩=some (.int .i64 p):=ab d 3;have E:c.cell? ⟨f,4,none⟩=some (.int .i64 q):=ab d 4;have F:c.cell? ⟨f,5,none⟩=some (.string r):=ab d 5;have G:c.cell? ⟨f,6,none⟩=some (.slice xa s xc):=ab d 6;clear d;by_cases m:kd=1
 ·have i:=ai (l.out m _ HB.out);subst m;clear l h k j;go_wp2_with fail;refine i.out.mono ?_;rintro e y ⟨v,rfl,g⟩;go_wp2_with fail
  go_ret
  exact⟨v,rfl,g.out⟩
 have x:(kd==1)=false:=by simpa using m
 by_cases n:kd=2
 ·have i:=ai (h.out n _ HB.out);subst n;clear l h k j m x;go_wp2_with fail;refine i.out.mono ?_;rintro e y ⟨v,rfl,g⟩;go_wp2_with fail
  go_ret
  exact⟨v,rfl,g.out⟩
 have A:(kd==2)=false:=by simpa using n
 by_cases t:kd=3
 ·have i:=ai (k.out t _ HB.out);subst t;clear l h k j m x n A;go_wp2_with fail;refine i.out.mono ?_;rintro e y ⟨v,rfl,g⟩;go_wp2_with fail
  go_ret
  exact⟨v,rfl,g.out⟩
 have H:(kd==3)=false:=by simpa using t
 have z:=ai (j.out (by omega) _ HB.out);clear l h k j;go_wp2_with fail
 go_ret
 exact⟨1,rfl,z.out⟩
section
variable {p:lT} {s:Sy} {d:fW} {w:World}
theorem aV.do(o:aV p s d w){kd a b:Int}(u:I2 (a,b)){m:Nat}(x:Tm (m+1))(y:In w.heap.size w (m+1) x/\ch (λq=>¬1<=d.ow q) (m+1) x)(A:(aq (m+1) x).length<=2097152)(C:d.k<=46000)(z:d.es.length<=96000)(D:d.wn<=800000)(B:d.bn<=800000):Calls Tryz.prog 6 #[.pointer (some ⟨p.b,0,none⟩),.agg #[.int .i64 kd,.int .i64 a,.int .i64 b,.int .i64 x.1.1,.int .i64 x.1.2.1,.string x.1.2.2,.slice x.2.1.1 x.2.2.length x.2.1.2]] w λe w'=>∃v,e=.returned (.int .i64 v)/\Hid (v=(s.do p.n p.prog p.room kd a b (m+1) x).2/\∃f,aV p (s.do p.n p.prog p.room kd a b (m+1) x).1 f w'/\fe 201 402 d f w w'):=by
 obtain⟨r,g⟩:∃r,r=s.do p.n p.prog p.room kd a b (m+1) x:=⟨_,rfl⟩;rw[<-g];unfold Sy.do at g;refine GF p.b kd a b x.1.1 x.1.2.1 x.1.2.2 x.2.1.1 x.2.2.length x.2.1.2 w (λv w'=>v=r.2/\∃f,aV p r.1 f w'/\fe 201 402 d f w w') (λe t c=>?_) (λe t c=>?_) (λe t c=>?_) λe t c=>?_
 ·rw[if_pos e]at g;refine((o.later c).run u.1 C z D B).mono ?_;rintro e w' ⟨v,rfl,h⟩;obtain⟨i,f,j,l⟩:=h.out;rw[g];exact⟨v,rfl,i,f,j,((dE.later d c).un.trans l).mono (by omega) (by omega)⟩
 ·rw[if_neg (by omega),if_pos e]at g;refine((o.later c).arrive u (by omega) (by omega) (by omega)).mono ?_;rintro e w' ⟨v,rfl,h⟩;obtain⟨i,f,j,l⟩:=h.out;rw[g];exact⟨v,rfl,i,f,j,((dE.later d c).un.trans l).mono (by omega) (by omega)⟩
 ·rw[if_neg (by omega),if_neg (by omega),if_pos e]at g;refine((o.later c).inject u.1 x ⟨(y.1.below c).mono c.size,y.2⟩ A (by omega) (by omega)).mono ?_;rintro e w' ⟨v,rfl,h⟩;obtain⟨i,f,j,l⟩:=h.out;rw[g];exact⟨v,rfl,i,f,j,((dE.later d c).un.trans l).mono (by omega) (by omega)⟩
 ·rw[if_neg (by omega),if_neg (by omega),if_neg (by omega)]at g;rw[g];exact⟨rfl,d,o.later c,(dE.later d c).un.mono (by omega) (by omega)⟩
end
theorem Et(y:Option Addr)(A z:Nat)(room E:Int)(w:World)(m:Int->Int->ByteArray->Option Addr->Nat->Nat->World->Prop)(q:Option Addr->Nat->Nat->World->Prop)(R:Value->Int->World->Prop)(x:Hid (Calls Tryz.prog 26 #[.slice y A z] w λe w'=>∃y0 y1 y2 ya yl yc,e=.returned (.tuple #[.agg #[.int .i64 y0,.int .i64 y1,.string y2,.slice ya yl yc],.int .i64 E])/\Hid (m y0 y1 y2 ya yl yc w')))(i:Hid (E=0->(0<=room/\room<=1000)->∀y0 y1 y2 ya yl yc W b,m y0 y1 y2 ya yl yc W->Below W.heap.size W b->Calls Tryz.prog 27 #[.agg #[.int .i64 y0,.int .i64 y1,.string y2,.slice ya yl yc]] b λe w'=>∃a l c u,e=.returned (.tuple #[.slice a l c,.int .i64 u])/\Hid (q a l c w')))(h:Hid (∀y0 y1 y2 ya yl yc W b,m y0 y1 y2 ya yl yc W->Below W.heap.size W b->(E≠0->R (.pointer none) E b)/\(E=0->¬(0<=room/\room<=1000)->R (.pointer none) 1 b)))(j:Hid (∀a l c W,E=0->(0<=room/\room<=1000)->q a l c W->R (.pointer (some ⟨W.heap.size,0,none⟩)) 0 (W.alloc (.cells #[.slice a l c,.int .i64 room,.int .i64 0,.map none,.map none,.map none,.slice none 0 0] 73)))):Calls Tryz.prog 10 #[.slice y A z,.int .i64 room] w λe w'=>∃v u,e=.returned (.tuple #[v,.int .i64 u])/\Hid (R v u w'):=by
 go_enter Tryz.func10,Tryz.ntmps10;go_wp2_with fail;refine x.out.mono ?_;rintro e g ⟨y0,y1,y2,ya,yl,yc,rfl,d⟩;clear x;have k:Hid (∀o,Below g.heap.size g (g.alloc o)):=λo=>(ah _ _).alloc (ag _) o;by_cases n:E=0;rotate_left
 ·have f:Hid (∀o,R (.pointer none) E (g.alloc o)):=λo=>(h.out _ _ _ _ _ _ _ _ d.out (k.out o)).1 n;have F:(E==0)=false:=by simpa using n
  clear i h j d;go_wp2_with fail;exact ao (v:=.tuple #[.pointer none,.int .i64 E]) (by simp[results,Tryz.results10,go_sem]) rfl ⟨_,_,rfl,f.out _⟩
 subst n;by_cases p:0<=room/\room<=1000;rotate_left
 ·have f:Hid (∀o,R (.pointer none) 1 (g.alloc o)):=λo=>(h.out _ _ _ _ _ _ _ _ d.out (k.out o)).2 rfl p;clear i h j d;by_cases B:room<0
  ·go_wp2_with fail;exact ao (v:=.tuple #[.pointer none,.int .i64 1]) (by simp[results,Tryz.results10,go_sem]) rfl ⟨_,_,rfl,f.out _⟩
  ·have C:1000<room:=by omega
   go_wp2_with fail;exact ao (v:=.tuple #[.pointer none,.int .i64 1]) (by simp[results,Tryz.results10,go_sem]) rfl ⟨_,_,rfl,f.out _⟩
 have s:=ai (λb=>i.out rfl p y0 y1 y2 ya yl yc g b d.out);have t:=ai (λa l c W=>j.out a l c W rfl p);have B:¬room<0:=by omega
 have C:¬1000<room:=by omega
 clear i j h d;go_wp2_with fail;refine(s.out _ (k.out _)).mono ?_;rintro e D ⟨a,l,c,u,rfl,r⟩;have f:=ai (t.out _ _ _ _ r.out);clear s t r;go_wp2_with fail;exact ao (v:=.tuple #[.pointer (some ⟨D.heap.size,0,none⟩),.int .i64 0]) (by simp[results,Tryz.results10,go_sem]) rfl ⟨_,_,rfl,f.out⟩
def KL:Sy:=⟨0,[],λ_=> [],λ_=>false,[]⟩
def zS(n:Nat)(l:List (Bh (n+1)))(room:Int):Int:=if mz n l≠0 then mz n l else if 0<=room/\room<=1000 then 0 else 1
def Kb(n:Nat)(l:List (Bh (n+1)))(room:Int)(w:World)(v:Value)(u:Int)(w':World):Prop:=
 u=zS n l room/\Below w.heap.size w w'/\(u≠0->v=.pointer none)/\(u=0->∃(a:lT)(c:fW),v=.pointer (some ⟨a.b,0,none⟩)/\aV a KL c w'/\(c.k=0/\c.es=[]/\c.wn=0/\c.bn=0)/\a.room=room/\a.lo=w.heap.size/\a.n=n+5/\aw (a.n+6) (cR a.n a.prog) (n+6) (cR n l)=true)
theorem zU(n:Nat)(l:List (Bh (n+1)))(A:Option Addr)(q:Nat)(room:Int)(w:World)(X:fx (n+1) w.heap.size w A l)(Y:l.length<=q)(Z:q<=maxLen)(I:jy (n+1) l=true->(aq (n+6) (cR n l)).length<=2097152):Calls Tryz.prog 10 #[.slice A l.length q,.int .i64 room] w λe w'=>∃v u,e=.returned (.tuple #[v,.int .i64 u])/\Hid (Kb n l room w v u w'):=by
 refine Et A l.length q room (mz n l) w (λy0 y1 y2 ya yl yc d=>Below w.heap.size w d/\∃f:Tm (n+6),(f.1=(y0,y1,y2)/\f.2.1=(ya,yc)/\f.2.2.length=yl)/\In d.heap.size d (n+6) f/\aw (n+6) f (n+6) (G5 n l)=true)
  (λi h c d=>∃g:List (Bh (n+6)),g.length=h/\(∃s,Below w.heap.size w s/\Below s.heap.size s d)/\(h<=c/\c<=maxLen)/\fx (n+6) d.heap.size d i g/\rJ (jl (n+6) λb=>w.heap.size<=b) (λb=>w.heap.size<=b) i g/\mz (n+5) g=0/\aw (n+11) (cR (n+5) g) (n+6) (cR n l)=true) (Kb n l room w) ?_ (λj y y0 y1 y2 ya yl yc d r p o=>?_) (λy0 y1 y2 ya yl yc d r p o=>⟨λj=>?_,λj y=>?_⟩) λi h c d j y hF=>?_
 ·refine(G6 n l A q Y Z w.heap.size w X (ag _) I).mono ?_;rintro e w' ⟨f,rfl,B⟩;obtain⟨R,S,ap,T⟩:=B.out;exact⟨f.1.1,f.1.2.1,f.1.2.2,f.2.1.1,f.2.2.length,f.2.1.2,rfl,R,f,⟨rfl,rfl,rfl⟩,S,T⟩
 ·obtain⟨m,f,⟨G,H,Q⟩,E,z⟩:=p;obtain⟨⟨aB,aC,aF⟩,⟨aG,aH⟩,aI⟩:=f;simp only[gN]at G H;obtain⟨rfl,rfl,rfl⟩:=G;obtain⟨rfl,rfl⟩:=H;subst Q;obtain⟨am,an,ao⟩:=EF j z;refine(FK (n+5) (n+6) (ag _) _ r.heap.size r ((E.below o).mono o.size) (eU am) (ag _)).mono ?_;rintro e w' ⟨g,i,c,rfl,B⟩;obtain⟨af,ai,aj,ak,av,al⟩:=B.out;obtain⟨a,ab,ad⟩:=al an;obtain⟨ay,N,O,az,aA⟩:=ao a g ab ad;have J:=m.trans (o.mono m.size);have au:=J.size;have h:=bZ (dH (n+6)) 2 (nr (n+6)) i;rw[(iL N).2.2,(iL j).2.2]at O;exact⟨i,g.length,c,_,rfl,g,rfl,⟨r,J,af⟩,ai,aj,h.1 _ _ _ (λb a=>by omega) ak,N,O⟩
 ·have m:=p.1.trans (o.mono p.1.size);exact⟨by unfold zS;rw[if_pos j],m,λ_=>rfl,λa=>absurd a j⟩
 ·have m:=p.1.trans (o.mono p.1.size);exact⟨by unfold zS;rw[if_neg (by rw[j];decide),if_neg y],m,λ_=>rfl,(λa=>by cases a)⟩
 ·obtain⟨g,rfl,⟨s,F,P⟩,K,D,L,aa,z⟩:=hF;have m:=F.trans (P.mono F.size);have M:=m.size;have t:Below d.heap.size d (d.alloc (.cells #[.slice i g.length c,.int .i64 room,.int .i64 0,.map none,.map none,.map none,.slice none 0 0] 73)):=(ah _ _).alloc (ag _) _;generalize U:d.alloc (.cells #[.slice i g.length c,.int .i64 room,.int .i64 0,.map none,.map none,.map none,.slice none 0 0] 73)=C at t;have x:C.heap[d.heap.size]?=some (.cells #[.slice i g.length c,.int .i64 room,.int .i64 0,.map none,.map none,.map none,.slice none 0 0] 73):=by
   rw[<-U];exact ax _ _
  have ar:=(aE.1 x).1;refine⟨by unfold zS;rw[if_neg (by rw[j];decide),if_pos y],m.trans (t.mono m.size),λa=>absurd rfl a,λ_=>⟨⟨w.heap.size,d.heap.size,room,n+5,g,i,c⟩,⟨λb=>if b=d.heap.size then -5 else if w.heap.size<=b/\b<d.heap.size then -4 else 0,none,[],none,0,λ_=> [],λ_=>lw,none,0,.slice none 0 0,[],0⟩,rfl,?_,⟨rfl,rfl,rfl,rfl⟩,rfl,rfl,rfl,z⟩⟩;have h:=bZ (dH (n+6)) 2 (nr (n+6)) i;refine⟨λb a=>?_,x,if_pos rfl,⟨⟨?_,?_⟩,K.1,K.2,aa,?_⟩,ae ⟨rfl,rfl⟩,⟨rfl,List.nodup_nil,by simp[KL],by decide,by decide,by simp[KL]⟩,?_,⟨⟨M,(o8 x).1,ae ⟨rfl,rfl,rfl⟩⟩,?_,λ_=>rfl,λ_=>aD _,?_⟩,⟨⟨M,(o8 x).2,ae ⟨rfl,rfl⟩⟩,?_,(λb a=>by cases a)⟩,⟨eg _ _ _ _,(λb a=>by cases a)⟩,rfl,(λe V=>by cases V)⟩
  ·have a:(if b=d.heap.size then (-5:Int)else if w.heap.size<=b/\b<d.heap.size then -4 else 0)≠0:=a;show w.heap.size<=b/\b<C.heap.size;split at a
   ·omega
   ·split at a
    ·omega
    ·exact absurd rfl a
  ·exact h.2.2.2.1 _ _ _ _ t.size (h.2.2.1 _ _ _ C _ (λb a=>t.block b a.2) (h.2.1 _ _ _ _ L D) D)
  ·refine h.1 _ _ _ (λb a=>?_) (h.2.1 _ _ _ _ L D);exact(if_neg (by omega)).trans (if_pos ⟨a.1,a.2⟩)
  ·rw[jI _ _ _ _ z];exact I (iL j).1
  ·intro k b a;cases a
  ·intro b a;rcases a with a|a|⟨k,_,a⟩
   ·exact ae a
   ·cases a
   ·cases a
  ·intro k f E;cases E
  ·intro k W;cases W
theorem yj(xs:List Value)(g len c:Nat)(w:World)(v:Hid (xs.length=len*7))(s:Hid (∀u∈xs,u.oneCell'=true))(E:len<=2000000)(x:Hid (∀w1,Below w.heap.size w w1->∀j u,xs[j]?=some u->w1.cell? ((⟨g,0,none⟩:Addr).add j)=some u)):Calls Tryz.prog 44 #[.slice (some ⟨g,0,none⟩) len c] w λe w'=>∃q,e=.returned q/\Hid (Below w.heap.size w w'/\w'.ownsRow w.heap.size 39 7 q len xs):=by
 obtain⟨C,i,m,o,p⟩:=bM FO;have a:=ai (⟨i,m,o,p⟩:_/\_/\_/\_);clear i m o p;have F:∀(w:World)(b:Option Addr)(n c f d:Nat),(binOp .eql 36 (.slice b n c) (.slice none f d)).run Tryz.prog w=.ok (.bool b.isNone) w:=λw b n c f d=>Lib.run_eql_slice_nil w _ _ b n c f d Tryz.underlying36;have D:(some (⟨g,0,none⟩:Addr)).isNone=false:=rfl;go_enter Tryz.func44,Tryz.ntmps44;go_wp2_with (at_builtin;refine wpList_append_own _ rfl _ _ 36 rfl w.heap.size 39 C _ 7 88 Tryz.underlying36 a.out.1 a.out.2.1 a.out.2.2.1 a.out.2.2.2 rfl (by decide) _ _ _ rfl (World.ownsRow_made w #[] 0 (ag _) (aD _) (by simp)) ⟨g,0,none⟩ len c xs rfl ?qc1 ?qc2 ?qc3 ?qc4 ?qc5 ?qc6 ?_)
 case qc1=>exact v.out
 case qc2=>exact x.out _ ((ah _ _).alloc (ag _) _)
 case qc3=>exact s.out
 case qc4=>unfold maxLen;omega
 case qc5=>omega
 case qc6=>simp
 intro r w1 l h A;have t:Hid (Below w.heap.size w w1/\w1.ownsRow w.heap.size 39 7 r len xs):=by
  have y:Below w.heap.size w w1:=Below.grown ((ah _ _).alloc (ag _) _) h (by simp) (by intro k z;simp[Value.ownBlock]at z;omega);have B:w1.ownsRow w.heap.size 39 7 r len xs:=by simpa using l
  exact⟨y,B⟩
 clear l h A;go_wp2_with fail
 go_ret
 exact⟨_,rfl,t.out⟩
theorem yh(c:Nat)(w:World):Calls Tryz.prog 44 #[.slice none 0 c] w λe w'=>e=.returned (.slice none 0 0)/\w'=w:=by
 have g:∀(w:World)(a:Option Addr)(n c d b:Nat),(binOp .eql 36 (.slice a n c) (.slice none d b)).run Tryz.prog w=.ok (.bool a.isNone) w:=λw a n c d b=>Lib.run_eql_slice_nil w _ _ a n c d b Tryz.underlying36;have f:(none:Option Addr).isNone=true:=rfl;go_enter Tryz.func44,Tryz.ntmps44;go_wp2_with fail
 go_ret
 exact⟨rfl,rfl⟩
theorem FE(h:Nat)(q:Option Addr)(L d:Nat)(v x:Nat->Int)(y:Nat->ByteArray)(xa:Nat->Option Addr)(z xc:Nat->Nat)(w:World)(k:Option Addr->Nat->Nat->World->Prop)(E:h<w.heap.size)(U:L<=1000000)(V:L<=d)(F:q=none/\L=0/\d=0\/∃g,q=some ⟨g,0,none⟩)(r:Hid (w.cell? ⟨h,6,none⟩=some (.slice q L d)))(s:Hid (∀W,Below w.heap.size w W->Calls Tryz.prog 44 #[.slice q L d] W λe w'=>∃a c,e=.returned (.slice a L c)/\Hid (Below W.heap.size W w'/\k a c 0 w')))(t:Hid (∀a c j W,j<L->k a c j W->∃g,a=some ⟨g,0,none⟩/\W.cell? ⟨g,j*7+3,none⟩=some (.int .i64 (v j))/\W.cell? ⟨g,j*7+3+1,none⟩=some (.int .i64 (x j))/\W.cell? ⟨g,j*7+3+2,none⟩=some (.string (y j))/\W.cell? ⟨g,j*7+3+3,none⟩=some (.slice (xa j) (z j) (xc j))/\ Hid (Calls Tryz.prog 45 #[.agg #[.int .i64 (v j),.int .i64 (x j),.string (y j),.slice (xa j) (z j) (xc j)]] W λe w'=>∃y0 y1 y2 ya yl yc,e=.returned (.agg #[.int .i64 y0,.int .i64 y1,.string y2,.slice ya yl yc])/\Hid ((w'.frozen? ⟨g,j*7+3,none⟩=false/\w'.frozen? ⟨g,j*7+3+1,none⟩=false/\w'.frozen? ⟨g,j*7+3+2,none⟩=false/\w'.frozen? ⟨g,j*7+3+3,none⟩=false)/\(w'.cell? ⟨g,j*7+3,none⟩=some (.int .i64 (v j))/\w'.cell? ⟨g,j*7+3+1,none⟩=some (.int .i64 (x j))/\w'.cell? ⟨g,j*7+3+2,none⟩=some (.string (y j))/\w'.cell? ⟨g,j*7+3+3,none⟩=some (.slice (xa j) (z j) (xc j)))/\k a c (j+1) (cP w' g (j*7+3) (.int .i64 y0) (.int .i64 y1) (.string y2) (.slice ya yl yc)))))):Calls Tryz.prog 20 #[.pointer (some ⟨h,0,none⟩),.int .i64 0] w λe w'=>∃a c,e=.returned (.slice a L c)/\Hid (k a c L w'):=by
 have b:Hid (Below w.heap.size w w.drew):=(ah _ _).drew;have i:Hid (∀W,Below w.heap.size w W->W.cell? ⟨h,6,none⟩=some (.slice q L d)):=λW C=>(C.cell (p:=⟨h,6,none⟩) E).trans r.out;have M:=r.out;have aa:¬((L:Int)<0):=by omega
 have ab:(0:Int)<=(L:Int):=by omega
 have ad:(L:Int)<=(d:Int):=by omega
 have ae:¬((d:Int)<(L:Int)):=by omega
 have af:¬(d<L):=by omega
 have ag:min (0:Int) (L:Int)=0:=by omega
 go_enter Tryz.func20,Tryz.ntmps20;go_upto_region 1 with fail;rcases F with⟨rfl,rfl,rfl⟩|⟨B,rfl⟩
 ·go_region_held3 (λW=>W.cell? ⟨h,6,none⟩=some (.slice none 0 0)) (first|exact i.out _ b.out|exact i.out _ m.out) ((first
    | (go_at_call 44;refine(s.out _ b.out).mono ?_;rintro e G ⟨a,c,rfl,f⟩;have m:=ai (b.out.trans (f.out.1.mono b.out.size)))))
  have l:=ai f.out.2;clear s r i b m t f;go_wp2_with fail;go_loopw [6,23] (λ_ o wr=>o=.int .i64 0/\Hid (k a c 0 wr)) (λ_ _ _=>0)
  case atStart=>exact⟨rfl,l.out⟩
  case round=>
  obtain⟨rfl,n⟩:=hrel;clear l;go_wp2_with fail
  go_ret
  exact⟨a,c,rfl,n.out⟩
 ·go_region_held3 (λW=>W.cell? ⟨h,6,none⟩=some (.slice (some ⟨B,0,none⟩) L d)) (first|exact i.out _ b.out|exact i.out _ m.out) ((first
    | (go_at_call 44;refine(s.out _ b.out).mono ?_;rintro e G ⟨a,c,rfl,f⟩;have m:=ai (b.out.trans (f.out.1.mono b.out.size)))))
  clear s r i b m;have l:=ai f.out.2;clear f;go_wp2_with fail;go_loopw [6,23] (λ_ o wr=>∃(j:Nat),j<=L/\o=.int .i64 j/\Hid (k a c j wr)) (λ_ o _=>L-(intOf o).toNat)
  case atStart=>exact⟨0,aD _,rfl,l.out⟩
  case round=>
  obtain⟨j,X,rfl,n⟩:=hrel;by_cases D:j<L
  ·obtain⟨g,rfl,H,I,J,K,A⟩:=t.out a c j wr D n.out;have Y:(0:Int)<=(j:Int):=by omega
   have Z:(j:Int)<(L:Int):=by omega
   clear t n;go_wp2_with fail;refine A.out.mono ?_;rintro e aj ⟨y0,y1,y2,ya,yl,yc,rfl,u⟩;obtain⟨⟨Q,R,S,T⟩,N,d1,O,P⟩:=(⟨u.out.1,u.out.2.1⟩:_/\_);go_wp2_with fail;go_roundw
   case rel=>exact⟨j+1,by omega,by go_num,u.out.2.2⟩
   case measure=>simp[intOf];omega
  ·obtain rfl:j=L:=by omega
   clear t l;go_wp2_with fail
   go_ret
   exact⟨a,c,rfl,n.out⟩
def uM(base:Nat)(a:Option Addr)(d:List (ByteArray×Int×Int×Tc))(w:World):Prop:=
 (d=[]\/∃c,a=some ⟨c,0,none⟩/\base<=c/\c<w.heap.size/\∀e b,d[e]?=some b->∀(t:Nat)(f:Value),(ET b)[t]?=some f->w.cell? ⟨c,e*7+t,none⟩=some f)/\∀b∈d,(In w.heap.size w 13 b.2.2.2/\ch (λg=>base<=g) 13 b.2.2.2)/\yz b.2.2.2
def Cb(a:Option Addr)(L c:Nat):Prop:=(a=none/\L=0/\c=0)\/((∃g,a=some ⟨g,0,none⟩)/\L<=c)
def JK(e:ByteArray×Int×Int×Tc):ByteArray×Int×Int×Tc:=(e.1,e.2.1,e.2.2.1,cn 13 e.2.2.2)
theorem uM.kee{base:Nat}{a:Option Addr}{j:List (ByteArray×Int×Int×Tc)}{w w':World}(e:uM base a j w){S:Nat->Prop}(i:bf S w w')(l:∀q,base<=q->q<w.heap.size->¬S q):uM base a j w':=by
 refine⟨?_,λb d=>?_⟩
 ·rcases e.1 with c|⟨g,c,k,h,m⟩
  ·exact ae c
  ·refine af ⟨g,c,k,aL h i.size,λo b d t p n=>?_⟩;rw[<-m o b d t p n];simp only[World.cell?,i.block g h (l g k h)]
 ·have c:=eX i (D:=λq=>base<=q/\q<w.heap.size) (λq f=>l q f.1 f.2) ⟨(e.2 b d).1.1,In.offB (e.2 b d).1.2 (e.2 b d).1.1⟩;exact⟨⟨c.1,c.2.mono λq f=>f.1⟩,(e.2 b d).2⟩
theorem Dh(xa:Option Addr)(xc:Nat)(w:World):K9 0 0 ⟨#[]⟩ xa 0 xc KW w:=λW h=>by
 refine(qy 12 0 0 ⟨#[]⟩ xa 0 xc [] W (by decide) λw1 c=>?_).mono ?_
 ·refine(kG xa xc w1).mono ?_;rintro e w' ⟨rfl,rfl⟩;exact⟨none,0,[],rfl,ah _ _,rfl,ag _,aD _,rfl,ae rfl⟩
 ·rintro e w' ⟨a,b,l,rfl,H⟩;obtain⟨c,d,g,f,_⟩:=H.out;obtain rfl:l=[]:=bK d;exact⟨0,0,⟨#[]⟩,a,0,b,rfl,c,((0,0,⟨#[]⟩),(a,b),[]),⟨rfl,rfl,rfl⟩,⟨⟨⟨show dc 0 by unfold dc;decide,show dc 0 by unfold dc;decide,show (0:Nat)<=maxLen from aD _,aD _,f⟩,ae rfl⟩,ae rfl⟩,rfl,af ⟨rfl,rfl⟩⟩
theorem Kj{x:Tc}{w:World}(d:In w.heap.size w 13 x)(a:yz x):K9 x.1.1 x.1.2.1 x.1.2.2 x.2.1.1 x.2.2.length x.2.1.2 (cn 13 x) w:=by
 rcases a with a|⟨b,c⟩
 ·exact jC d a
 ·obtain⟨⟨g,h,i⟩,⟨e,f⟩,j⟩:=x;simp only[gN]at b c;obtain⟨rfl,rfl,rfl⟩:=b;subst c;exact Dh e f w
theorem IG(l:List (ByteArray×Int×Int×Tc)):∀u∈l.flatMap ET,u.oneCell'=true:=λu b=>by
 obtain⟨e,_,a⟩:=iU.1 b;simp only[ET,br,dv,dx]at a;rcases a with rfl|rfl|rfl|rfl|rfl|rfl|rfl<;>rfl
section
variable {p:lT} {s:Sy} {d:fW} {w:World}
theorem aV.eventsF(B:aV p s d w)(a5:d.es.length<=100000):Calls Tryz.prog 20 #[.pointer (some ⟨p.b,0,none⟩),.int .i64 0] w λe w'=>∃a c,e=.returned (.slice a d.es.length c)/\Hid (Below w.heap.size w w'/\Cb a d.es.length c/\∃aj,aj.length=d.es.length/\aj.map JK=s.evs/\uM w.heap.size a aj w'):=by
 obtain⟨H,D,ar,aR,av⟩:∃H D,d.ev=.slice H d.es.length D/\d.es.length<=D/\(H=none/\d.es.length=0/\D=0\/∃g,H=some ⟨g,0,none⟩):=by
  rcases B.evr.1.2 with⟨e,Q⟩|⟨g,c,al,e,_,_,k,_⟩
  ·exact⟨none,0,by rw[e,Q],by omega,ae ⟨rfl,Q,rfl⟩⟩
  ·exact⟨_,c,e,k,af ⟨g,rfl⟩⟩
 obtain⟨q,R⟩:∃q:Nat->ByteArray×Int×Int×Tc,∀h,h<d.es.length->d.es[h]?=some (q h):=⟨λh=>d.es.getD h (⟨#[]⟩,0,0,KW),λh C=>by
  simp only[nT,aA C]
  rfl⟩
 have aS:∀j,Below w.heap.size w j->∀h,h<d.es.length->In j.heap.size j 13 (q h).2.2.2/\yz (q h).2.2.2:=λj z h C=>by
  have:=(B.later z).evt.2 _ (ay (R h C));exact⟨this.1.1,this.2⟩
 have X:=B.evr.1;rw[ar]at X;have aD:w.cell? ⟨p.b,6,none⟩=some (.slice H d.es.length D):=by
  have E:=ab B.box 6;simp only[dK,cH,cT]at E;rw[ar]at E;exact E
 refine(FE p.b H d.es.length D (λh=>(q h).2.2.2.1.1) (λh=>(q h).2.2.2.1.2.1) (λh=>(q h).2.2.2.1.2.2) (λh=>(q h).2.2.2.2.1.1) (λh=>(q h).2.2.2.2.2.length) (λh=>(q h).2.2.2.2.1.2) w
  (λa c h j=>Below w.heap.size w j/\Cb a d.es.length c/\(d.es.length=0\/∃(g:Nat)(f:Nat->ByteArray×Int×Int×Tc),a=some ⟨g,0,none⟩/\(w.heap.size<=g/\g<j.heap.size)/\(∀o,j.frozen? ⟨g,o,none⟩=false)/\(∀i,i<d.es.length->∀(t:Nat)(n:Value),(ET (f i))[t]?=some n->j.cell? ⟨g,i*7+t,none⟩=some n)/\(∀i,i<h->(JK (f i)=JK (q i)/\yz (f i).2.2.2)/\In j.heap.size j 13 (f i).2.2.2/\ch (λr=>w.heap.size<=r/\r≠g) 13 (f i).2.2.2)/\∀i,h<=i->i<d.es.length->f i=q i)) B.lo.2 (by omega) aR av aD (λj z=>?_) (λa c h j C L=>?_)).mono ?_
 ·rcases av with⟨rfl,Q,rfl⟩|⟨g,rfl⟩
  ·rw[Q];refine(yh 0 j).mono ?_;rintro e w' ⟨rfl,rfl⟩;exact⟨none,0,rfl,ah _ _,z,ae ⟨rfl,rfl,rfl⟩,ae rfl⟩
  ·have x:=X.lt g rfl;refine(yj (d.es.flatMap ET) g d.es.length D j X.1 (IG _) (by omega) λbc A h n m=>?_).mono ?_
   ·have E:=World.ownsRow.cells X (g:=g) rfl h n m;have aH:=z.trans (A.mono z.size);exact(aH.cell (p:=(⟨g,0,none⟩:Addr).add h) (by simp only[Addr.add];split<;>exact x.2)).trans E
   ·rintro e w' ⟨bb,rfl,I⟩;obtain⟨y,F⟩:=I.out;obtain⟨a,c,aE,am,an⟩:=pS F (by decide) λP=>rfl;subst aE;have N:Cb a d.es.length c:=by
     rcases F.2 with⟨v,Y⟩|⟨J,a3,al,v,_,_,Y,_⟩
     ·injection v with v ax az;exact ae ⟨v,Y,az⟩
     ·injection v with v ax az;exact af ⟨⟨J,v⟩,by omega⟩
    refine⟨a,c,rfl,y,z.trans (y.mono z.size),N,?_⟩;by_cases K:d.es.length=0
    ·exact ae K
    ·obtain⟨J,v,Y,ax⟩:=an 0 _ (R 0 (by omega));obtain⟨al,aI⟩:=dT F J (am _ v);have a6:=z.size;refine af ⟨J,q,v,⟨by have:=(F.lt J (am _ v)).1;omega,Y⟩,λo=>by simp[World.frozen?,aI],λi l t n m=>?_,λi l=>by omega,λ_ _ _=>rfl⟩;obtain⟨a4,G,ba,a0⟩:=an i _ (R i l);rw[v]at G;injection G with G;injection G with G;subst G;exact a0 t n m
 ·obtain⟨A,N,L⟩:=L;rcases L with K|⟨g,f,rfl,x,aw,T,S,M⟩
  ·omega
  have aJ:=M h (ag _) C;have k:=T h C;rw[aJ]at k;refine⟨g,rfl,k 3 _ rfl,k 4 _ rfl,k 5 _ rfl,k 6 _ rfl,?_⟩;obtain⟨a1,a2⟩:=aS j A h C;refine(Kj a1 a2 j (ah _ _)).mono ?_;rintro e w' ⟨y0,y1,y2,ya,yl,yc,rfl,I⟩;obtain⟨y,aB,⟨ao,aq,aF⟩,⟨F,aW⟩,aX,aY⟩:=I.out;have u:∀{o:Nat}{n:Value},j.cell? ⟨g,o,none⟩=some n->w'.cell? ⟨g,o,none⟩=some n:=λ{o n} r=>(y.cell (p:=⟨g,o,none⟩) x.2).trans r;have O:∀o,w'.frozen? ⟨g,o,none⟩=false:=λo=>(y.frozen (p:=⟨g,o,none⟩) x.2).trans (aw o);refine⟨y0,y1,y2,ya,yl,yc,rfl,⟨O _,O _,O _,O _⟩,⟨u (k 3 _ rfl),u (k 4 _ rfl),u (k 5 _ rfl),u (k 6 _ rfl)⟩,?_⟩;have aM:=mQ w' g (h*7+3) (.int .i64 y0) (.int .i64 y1) (.string y2) (.slice ya yl yc);have a9:=aZ (w:=w') (g:=g) (o:=h*7+3) (.int .i64 y0) (.int .i64 y1) (.string y2) (.slice ya yl yc);have V:=vw (.int .i64 y0) (.int .i64 y1) (.string y2) (.slice ya yl yc) ⟨u (k 3 _ rfl),u (k 4 _ rfl),u (k 5 _ rfl),u (k 6 _ rfl)⟩;have U:=λo (aO:o<h*7+3\/h*7+3+4<=o)=>zv (w:=w') (g:=g) (v0:=.int .i64 y0) (v1:=.int .i64 y1) (v2:=.string y2) (v3:=.slice ya yl yc) o aO;have aL:=λo=>(rE (w:=w') (g:=g) (o:=h*7+3) (v0:=.int .i64 y0) (v1:=.int .i64 y1) (v2:=.string y2) (v3:=.slice ya yl yc) o).trans (O o);have aP:Below w.heap.size w (cP w' g (h*7+3) (.int .i64 y0) (.int .i64 y1) (.string y2) (.slice ya yl yc)):=dB (A.trans (y.mono A.size)) x.1;generalize cP w' g (h*7+3) (.int .i64 y0) (.int .i64 y1) (.string y2) (.slice ya yl yc)=ak at*;have a7:=y.size;have a8:=A.size;have au:∀{Z:Tc},In w'.heap.size w' 13 Z->ch (λr=>w.heap.size<=r/\r≠g) 13 Z->In ak.heap.size ak 13 Z/\ch (λr=>w.heap.size<=r/\r≠g) 13 Z:=λaT aU=>eX aM (λr P aC=>P.2 aC) ⟨aT,aU⟩;refine⟨aP,N,af ⟨g,λi=>if i=h then ((q h).1,(q h).2.1,(q h).2.2.1,aB)else f i,rfl,⟨x.1,by omega⟩,aL,λi l t n m=>?_,λi l=>?_,λi E aG=>?_⟩⟩
  ·have aQ:t<7:=by
     have:=(aK.1 m).1;simpa [ET]using this
   by_cases e:i=h
   ·subst e;simp only[cI]at m;obtain⟨⟨bd,be,aC⟩,⟨bf,bg⟩,bh⟩:=aB;simp only[gN]at ao aq;obtain⟨rfl,rfl,rfl⟩:=ao;obtain⟨rfl,rfl⟩:=aq;subst aF
    match t,aQ with
    | 0,_=>exact(U _ (by omega)).trans (u (k 0 n m))
    | 1,_=>exact(U _ (by omega)).trans (u (k 1 n m))
    | 2,_=>exact(U _ (by omega)).trans (u (k 2 n m))
    | 3,_=>exact V.1.trans m
    | 4,_=>exact V.2.1.trans m
    | 5,_=>exact V.2.2.1.trans m
    | 6,_=>exact V.2.2.2.trans m
   ·simp only[if_neg e]at m;exact(U _ (by omega)).trans (u (T i l t n m))
  ·by_cases e:i=h
   ·simp only[e,cI];have:=au F (aW.mono λr P=>⟨by omega,by omega⟩);refine⟨⟨?_,aY⟩,this.1,this.2⟩;unfold JK;rw[aX]
   ·simp only[if_neg e];obtain⟨aa,ad,ai⟩:=S i (by omega);have:=au ((ad.below y).mono y.size) ai;exact⟨aa,this.1,this.2⟩
  ·simp only[if_neg (show¬i=h by omega)];exact M i (by omega) aG
 ·rintro e w' ⟨a,c,rfl,I⟩;obtain⟨A,N,L⟩:=I.out;refine⟨a,c,rfl,A,N,?_⟩;rcases L with K|⟨g,f,rfl,x,aw,T,S,M⟩
  ·have aN:d.es=[]:=bK K;refine⟨[],by rw[K];rfl,?_,ae rfl,λe M=>by cases M⟩;rw[<-B.evt.1,aN];rfl
  ·refine⟨(List.range d.es.length).map f,by simp,?_,af ⟨g,rfl,x.1,x.2,λi e l t n m=>?_⟩,λe l=>?_⟩
   ·rw[<-B.evt.1];refine List.ext_getElem? λi=>?_;by_cases l:i<d.es.length
    ·rw[dh,dh,dh,List.getElem?_range l,R i l];exact congrArg some (S i l).1.1
    ·rw[eP (by simpa using Nat.le_of_not_lt l),eP (by simpa using Nat.le_of_not_lt l)]
   ·have W:i<d.es.length:=by
      have:=(aK.1 l).1;simpa using this
    rw[dh,List.getElem?_range W]at l;obtain rfl:=ap l;exact T i W t n m
   ·obtain⟨i,W,rfl⟩:=cC.1 l;obtain⟨aa,ad,ai⟩:=S i (List.mem_range.1 W);exact⟨⟨ad,ai.mono λr P=>P.1⟩,aa.2⟩
theorem aV.events(h:aV p s d w)(i:d.es.length<=100000):Calls Tryz.prog 7 #[.pointer (some ⟨p.b,0,none⟩)] w λe w'=>∃a c,e=.returned (.slice a d.es.length c)/\Hid (Below w.heap.size w w'/\Cb a d.es.length c/\∃f,f.length=d.es.length/\f.map JK=s.evs/\uM w.heap.size a f w'):=by
 have g:=ai (h.eventsF i);clear h i;generalize d.es.length=k at*;go_enter Tryz.func7,Tryz.ntmps7;go_wp2_with fail;refine g.out.mono ?_;rintro e l ⟨a,c,rfl,j⟩;clear g;go_wp2_with fail
 go_ret
 exact⟨a,c,rfl,j.out⟩
end
theorem zV(b:Nat)(name:ByteArray)(w:World)(d:w.cell? ⟨b,0,none⟩=some (.string name))(c:Hid (∀w1:World,Calls Tryz.prog 49 #[.string name] w1 λe w'=>e=.returned (.string name)/\Below w1.heap.size w1 w')):Calls Tryz.prog 23 #[.pointer (some ⟨b,0,none⟩)] w λe w'=>e=.returned (.string name)/\Below w.heap.size w w':=by
 go_enter Tryz.func23,Tryz.ntmps23;go_wp2_with fail;refine(c.out _).mono ?_;rintro e w1 ⟨rfl,a⟩;have HB:=ai a;clear a;go_wp2_with fail
 go_ret
 exact⟨rfl,HB.out⟩
theorem P1.sname{b a:Nat}{name:ByteArray}{room:Int}{cs:Tc}{c:List Tc}{k:Nat}{M:Nat->Prop}{w:World}(d:P1 b a name room cs c k M w)(h:name.size<=2048):Calls Tryz.prog 23 #[.pointer (some ⟨a,0,none⟩)] w λe w'=>e=.returned (.string name)/\Below w.heap.size w w':=by
 obtain⟨l,s,p,x,r,t,v,n,o,j,f,_⟩:=d;obtain⟨u,m,q,g,_⟩:=f.heap.box;exact zV a name w (PL.cells g).1 λi=>dD name i h
theorem P1.mails2{v u:Nat}{name:ByteArray}{room:Int}{cs:Tc}{g:List Tc}{k:Nat}{M:Nat->Prop}{w:World}(C:P1 v u name room cs g k M w)(I:k<=50000)(D:g.length<=999):Calls Tryz.prog 25 #[.pointer (some ⟨u,0,none⟩)] w λe w'=>∃(ys:List Tc)(a:Option Addr)(c:Nat),e=.returned (.slice a g.length c)/\Hid (ys.length=g.length/\Below w.heap.size w w'/\eY w'.heap.size w' 13 ys a/\ys.map (cn 13)=g/\(∀b,(Value.slice a g.length c).ownBlock=some b->w.heap.size<=b)/\∀y∈ys,bA 13 y=0/\ch (λq=>w.heap.size<=q) 13 y):=by
 obtain⟨Q,Y,l,ab,X,Z,aa,V,W,O,s,⟨rfl,rfl⟩,T,U⟩:=C;have G:∀y∈l,bA 13 y=0:=λy d=>((s.front (N:=12)).2.2.1 y (bR _ d)).1;have S:l.length<=999:=by simpa using D
 refine(s.mails (N:=12) I (by omega)).mono ?_;rintro e w' ⟨ys,z,a,c,rfl,x⟩;obtain⟨t,j,p⟩:=x.out;have E:z=(l.map (cn 13)).length:=by
  rw[<-t,dO];exact cV _ _ _ p
 subst E;obtain⟨P,R,m,_,n,_⟩:=eN.lay (dM 13) (f:=gq 13) (λ_=>rfl) j;injection m with m _ _;subst m;refine⟨ys,a,c,rfl,t,j.1,?_,L8 ys l p,λb F=>(j.2.1.lt b F).1,λy d=>⟨?_,(j.2.2 y d).2.mono λq J=>by rcases J.1 with r|r<;>omega⟩⟩
 ·rcases n with n|⟨B,o,A,H,h⟩
  ·exact ae n
  ·exact af ⟨B,o,A,H,λi y d=>⟨⟨(h i y d).1 0 _ rfl,(h i y d).1 1 _ rfl,(h i y d).1 2 _ rfl,(h i y d).1 3 _ rfl⟩,(h i y d).2⟩⟩
 ·obtain⟨r,L,K⟩:=qP _ _ _ p y d;exact(bI K).trans (G r L)
theorem BM(g:Nat)(t:Option Nat)(a:Int)(nm:ByteArray)(k:Value)(L:Nat)(w:World)(I:Option Addr->Nat->World->Prop)(Q:g<w.heap.size)(z:Hid (w.cell? ⟨g,3,none⟩=some (.map t)))(A:Hid (∀W,Below w.heap.size w W->(Instr.lookup 64 (.map t) (.int .i64 a) true).run Tryz.prog W=.ok (.tuple #[k,.bool true]) W))(C:Hid (∀W,Below w.heap.size w W->Calls Tryz.prog 23 #[k] W λe w'=>e=.returned (.string nm)/\Below W.heap.size W w'))(D:Hid (∀W,Below w.heap.size w W->Calls Tryz.prog 24 #[k] W λe w'=>∃y0 y1 y2 ya yl yc,e=.returned (.agg #[.int .i64 y0,.int .i64 y1,.string y2,.slice ya yl yc])/\Below W.heap.size W w'))(B:Hid (∀W,Below w.heap.size w W->Calls Tryz.prog 25 #[k] W λe w'=>∃ma d,e=.returned (.slice ma L d)/\Hid (Below W.heap.size W w'/\∀H,w.heap.size<W.heap.size->bf (λq=>q=w.heap.size) w' H->I ma d H))):Calls Tryz.prog 9 #[.pointer (some ⟨g,0,none⟩),.int .i64 a] w λe w'=>∃y0 y1 y2 ya yl yc ma d,e=.returned (.tuple #[.string nm,.agg #[.int .i64 y0,.int .i64 y1,.string y2,.slice ya yl yc],.slice ma L d,.int .i64 0])/\Hid (I ma d w'/\Below w.heap.size w w'):=by
 go_enter Tryz.func9,Tryz.ntmps9;go_upto_region 1 with fail;generalize s:w.alloc _=u;have HB:Hid (Below w.heap.size w u):=by
  rw[<-s];exact(ah _ _).alloc (ag _) _
 have E:Hid (u.heap[w.heap.size]?=some (.cells #[.int .i64 0,.int .i64 0,.string ⟨#[]⟩,.slice none 0 0] 30)):=by
  rw[<-s];exact ax _ _
 clear s;have P:=A.out _ HB.out;have O:u.cell? ⟨g,3,none⟩=some (.map t):=(HB.out.cell (p:=⟨g,3,none⟩) Q).trans z.out;clear A z;go_wp2_with fail;refine(C.out _ HB.out).mono ?_;rintro e V ⟨rfl,m⟩;have i:=ai (HB.out.trans (m.mono HB.out.size));have F:=ai (fF m E.out);clear m C P O HB E;go_wp2_with fail;refine(D.out _ i.out).mono ?_;rintro e X ⟨y0,y1,y2,ya,yl,yc,rfl,n⟩;have j:=ai (i.out.trans (n.mono i.out.size));have l:=ai (fF n F.out);clear n D i F;go_wp2_with fail;refine(B.out _ j.out).mono ?_;rintro e b ⟨ma,d,rfl,h⟩;have x:=ai (j.out.trans (h.out.1.mono j.out.size));have c:=fF h.out.1 l.out;have G:=ai (h.out.2 _ (aE.1 l.out).1 (mQ b w.heap.size 0 (.int .i64 y0) (.int .i64 y1) (.string y2) (.slice ya yl yc)));have y:Hid (Below w.heap.size w (cP b w.heap.size 0 (.int .i64 y0) (.int .i64 y1) (.string y2) (.slice ya yl yc))):=(dB (o:=0) (v0:=.int .i64 y0) (v1:=.int .i64 y1) (v2:=.string y2) (v3:=.slice ya yl yc) x.out (ag _));have f:=ai (vv c (.int .i64 y0) (.int .i64 y1) (.string y2) (.slice ya yl yc));obtain⟨q,r⟩:∃q,q=w.heap.size:=⟨_,rfl⟩;rw[<-r]at c f y G ⊢;have N:=ai r;clear r;have Y:b.cell? ⟨q,0,none⟩=some (.int .i64 0):=ab c 0;have Z:b.cell? ⟨q,1,none⟩=some (.int .i64 0):=ab c 1;have aa:b.cell? ⟨q,2,none⟩=some (.string ⟨#[]⟩):=ab c 2;have ad:b.cell? ⟨q,3,none⟩=some (.slice none 0 0):=ab c 3;have R:b.frozen? ⟨q,0,none⟩=false:=by simp[World.frozen?,c]
 have S:b.frozen? ⟨q,1,none⟩=false:=by simp[World.frozen?,c]
 have T:b.frozen? ⟨q,2,none⟩=false:=by simp[World.frozen?,c]
 have U:b.frozen? ⟨q,3,none⟩=false:=by simp[World.frozen?,c]
 clear c h B l j x;go_wp2_with fail;have J:(cP b q 0 (.int .i64 y0) (.int .i64 y1) (.string y2) (.slice ya yl yc)).cell? ⟨q,0,none⟩=some (.int .i64 y0):=ab f.out 0;have d1:(cP b q 0 (.int .i64 y0) (.int .i64 y1) (.string y2) (.slice ya yl yc)).cell? ⟨q,1,none⟩=some (.int .i64 y1):=ab f.out 1;have K:(cP b q 0 (.int .i64 y0) (.int .i64 y1) (.string y2) (.slice ya yl yc)).cell? ⟨q,2,none⟩=some (.string y2):=ab f.out 2;have M:(cP b q 0 (.int .i64 y0) (.int .i64 y1) (.string y2) (.slice ya yl yc)).cell? ⟨q,3,none⟩=some (.slice ya yl yc):=ab f.out 3;simp only[cP,cU]at J d1 K M;exact ao (v:=.tuple #[.string nm,.agg #[.int .i64 y0,.int .i64 y1,.string y2,.slice ya yl yc],.slice ma L d,.int .i64 0]) (by simp[results,Tryz.results9,go_sem,J,d1,K,M]) rfl ⟨y0,y1,y2,ya,yl,yc,ma,d,rfl,G.out,N.out▸y.out⟩
section
variable {p:lT} {s:Sy} {d:fW} {w:World}
theorem aV.proc(j:aV p s d w){a:Int}{nm:ByteArray}{cs:Tc}{c:List Tc}(A:s.get a=some (nm,cs,c))(R:nm.size<=2048)(Z:d.k<=47000):Calls Tryz.prog 9 #[.pointer (some ⟨p.b,0,none⟩),.int .i64 a] w λe w'=>∃y0 y1 y2 ya yl yc ma q,e=.returned (.tuple #[.string nm,.agg #[.int .i64 y0,.int .i64 y1,.string y2,.slice ya yl yc],.slice ma c.length q,.int .i64 0])/\Hid ((∃ys:List Tc,ys.length=c.length/\eY w'.heap.size w' 13 ys ma/\ys.map (cn 13)=c/\∀y∈ys,bA 13 y=0)/\Below w.heap.size w w'):=by
 obtain⟨r,H⟩:∃r,cE d.l a=some r:=by
  have:=j.alive a;rw[A]at this;exact fL.1 this
 obtain⟨X,N,M,m,x,Y⟩:=j.ps a r H;rw[A]at m;obtain⟨rfl,rfl,rfl⟩:nm=X/\cs=N/\c=M:=by
  injection m with m;injection m with u h;injection h with h v;exact⟨u,h,v⟩
 refine BM p.b d.po a nm (xI r) c.length w (λma q w'=>∃ys:List Tc,ys.length=c.length/\eY w'.heap.size w' 13 ys ma/\ys.map (cn 13)=c/\∀y∈ys,bA 13 y=0) j.lo.2 j.cells.2.2.2 (λg f=>?_) (λg f=>(x.later f).sname R) (λg f=>?_) λg f=>?_
 ·have:=(j.later f).look a true;rw[if_pos rfl,H]at this;exact this
 ·refine((x.later f).state (by omega)).mono ?_;rintro e w' ⟨y,rfl,t⟩;exact⟨y.1.1,y.1.2.1,y.1.2.2,y.2.1.1,y.2.2.length,y.2.1.2,rfl,t.out.1⟩
 ·refine((x.later f).mails2 (by omega) (by omega)).mono ?_;rintro e w' ⟨ys,ma,q,rfl,t⟩;obtain⟨T,I,U,V,W,J⟩:=t.out;have ab:=I.size;have ad:w.heap.size<g.heap.size\/g.heap.size<=w.heap.size:=by omega
  refine⟨ma,q,rfl,I,λL aa z=>⟨ys,T,?_,V,λy n=>(J y n).1⟩⟩;rcases U with O|⟨i,o,u,h,v⟩
  ·exact ae O
  ·subst u;have A:=W i rfl;refine af ⟨i,o,rfl,aL h z.size,λS y n=>?_⟩;have P:L.heap[i]?=w'.heap[i]? :=z.block i h (by omega);have G:=v S y n;have Q:=eX z (D:=λK=>g.heap.size<=K) (λK ag ah=>by omega) ⟨G.2,(J y (ay n)).2⟩;refine⟨?_,Q.1⟩;obtain⟨B,C,E,F⟩:=G.1;simp only[World.cell?,<-P]at B C E F;exact⟨B,C,E,F⟩
end
end Go.Proofs.YtnidfceinoiboaaGreat
