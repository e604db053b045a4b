/- What is proved here: plain facts and contracts that the claimed theorem stands on. No condition but those that each names. -/
import Derived.Test.YtckamaoibonjcaaGreatG38
namespace Go.Proofs.YtckamaoibonjcaaGreat
open Go.RowKit
open Go.RowKit Go.Maps
set_option maxRecDepth 100000
set_option maxHeartbeats 2000000
def Ew(f:Tk)(t:T8)(d:gf)(W:World):Prop:=
 ∃(h g:Nat)(c:List (Int×Tm (h+1)))(e:List (Int×ByteArray×Tm (h+1))),(c.length=t.sl/\e.length=t.pl/\f.links.length=t.kl)/\W.ownsRow g 162 5 (.slice t.sa t.sl t.sc) t.sl (c.flatMap λa=>LJ a.1 a.2)/\W.ownsRow g 159 6 (.slice t.pa t.pl t.pc) t.pl (e.flatMap λa=>MM a.1 a.2.1 a.2.2)/\W.ownsRow g 3 1 (.slice t.ka t.kl t.kc) t.kl (f.links.map λi=> .int .i64 i)/\
  c.map (λa=>(a.1,cn _ a.2))=f.sends/\e.map (λa=>(a.1,a.2.1,cn _ a.2.2))=f.spawns/\(∀a∈c,bm _ a.2=0/\Et d W a.2)/\(∀a∈e,bm _ a.2.2=0/\Et d W a.2.2)/\∀b,((Value.slice t.sa t.sl t.sc).ownBlock=some b\/(Value.slice t.pa t.pl t.pc).ownBlock=some b\/(Value.slice t.ka t.kl t.kc).ownBlock=some b)->b<W.heap.size/\0<=d.ow b
theorem Ew.kee{n:Tk}{t:T8}{d h:gf}{W g:World}(s:Ew n t d W)(b:bi (λq=>d.ow q<0) W g)(m:∀q,q<W.heap.size->h.ow q=d.ow q):Ew n t h g:=by
 obtain⟨p,r,A,B,e,u,v,w,x,y,k,l,f⟩:=s;have hF:∀{z:Nat}{o:Tm z},Et d W o->Et h g o:=λj=>by
  have e:=eJ b (D:=λq=>0<=d.ow q/\q<W.heap.size) (λq a C=>by omega) ⟨j.1,In.offB j.2 j.1⟩;exact⟨e.1,e.2.mono λq a=>by rw[m q a.2];exact a.1⟩
 have i:∀q,((Value.slice t.sa t.sl t.sc).ownBlock=some q\/(Value.slice t.pa t.pl t.pc).ownBlock=some q\/(Value.slice t.ka t.kl t.kc).ownBlock=some q)->¬d.ow q<0:=λq a=>by have:=(f q a).2;omega
 exact⟨p,r,A,B,e,aW u b λq a=>i q (ae a),aW v b λq a=>i q (af (ae a)),aW w b λq a=>i q (af (af a)),x,y,λa c=>⟨(k a c).1,hF (k a c).2⟩,λa c=>⟨(l a c).1,hF (l a c).2⟩,λq a=>⟨aJ (f q a).1 b.size,by rw[m q (f q a).1];exact(f q a).2⟩⟩
def Om(t:T8):Obj:=.cells #[.int .i64 t.y0,.int .i64 t.y1,.string t.y2,.slice t.ya t.yl t.yc,.int .i64 t.f,.slice t.sa t.sl t.sc,.slice t.pa t.pl t.pc,.slice t.ka t.kl t.kc] 112
section
variable {p:lh} {s:Sy} {d:gf} {w:World}
theorem fE.ug{M:Nat->Prop}{k b c:Nat}{d1 e:gf}{w1 w2:World}(m:fE k c d d1 w w1)(g:pf M b d1 e w1 w2)(n:∀q,M q->w.heap.size<=q):fE (k+b) c d e w w2:=by
 obtain⟨f,h,u,v,x,y⟩:=m;obtain⟨j,l,_,p,r,s,t⟩:=g;have z:=f.size;exact⟨f.trans j λq a i=>by rw[h q a]at i;omega,λq a=>(l q (by omega) λo=>by have:=n q o;omega).trans (h q a),by omega,by omega,by omega,by omega⟩
def Nf(p:lh)(s:Sy)(d:gf)(w:World)(a:Tk)(q:Nat)(t:T8)(d1:gf)(W:World):Prop:=
 aX p s d1 W/\fE 1 402 d d1 w W/\(w.heap.size<=q/\q<W.heap.size/\d1.ow q=0/\W.heap[q]?=some (Om t))/\t.f=a.fate/\Ew a t d1 W
theorem aX.run(q:aX p s d w){a:Int}(aR:dh a)(ct:d.k<=46000)(cp:d.es.length<=96000)(cz:d.wn<=800000)(cs:d.bn<=800000):ah 26 #[.pointer (some ⟨p.b,0,none⟩),.int .i64 a] w λe w'=>∃v,e=.returned (.int .i64 v)/\Hid (v=(s.run p.n p.prog p.room a).2/\∃E,aX p (s.run p.n p.prog p.room a).1 E w'/\fE 201 402 d E w w'):=by
 obtain⟨bQ,aV⟩:=q.lo;obtain⟨a7,ck,a8,a9⟩:=q.cells;obtain⟨_,_,_,cm,co,_⟩:=q.keys;have bh:jP (p.n+1) p.prog=true:=(fx q.pg.2.2.2.1).1;have bf:IntKind.i64.wrap (s.last+1)=s.last+1:=by rw[IntKind.wrap];simp[IntKind.bits,IntKind.signed];omega
 have aj:=q.look a true;have az:=q.alive a;rw[if_pos rfl]at aj;obtain⟨P,m⟩:∃P,P=s.run p.n p.prog p.room a:=⟨_,rfl⟩;rw[<-m];unfold Sy.run at m;cases hg:s.get a with
 | none=>
  rw[hg]at m az;rw[az]at aj;have bB:(4:Int)=P.2/\∃E,aX p P.1 E w/\fE 201 402 d E w w:=by
   rw[m];exact⟨rfl,d,q,(dG.later d (ak _ _)).un.mono (aB _) (aB _)⟩
  exact wM p.b d.po a s.last (s.last+1) p.pa p.prog.length p.pc _ false w (λ_ _ _ _=>False) (λ_ _ _=>False) (λ_ _ _ _ _=>False) (λv w'=>v=P.2/\∃E,aX p P.1 E w'/\fE 201 402 d E w w') bf aV ⟨a7,a8,a9⟩ aj (λ_=>bB) ((λg=>by cases g)) (λ_ _ _ _ ⟨_,_,_,g,_⟩=>g.elim) (λ_ _ _ ⟨_,_,_,g,_⟩=>g.elim) (λ_ _ _ g=>g.elim) (λ_ _ _ g=>g.elim) (λ_ _ _ _ _ g=>g.elim) (λ_ _ _ _ _ g=>g.elim) (λ_ _ _ _ g=>g.elim) λ_ _ _ _ g=>g.elim
 | some aq=>
  obtain⟨B,ad,W⟩:=aq;rw[hg]at m az;obtain⟨bv,aF⟩:=fY.1 az;rw[aF]at aj;obtain⟨b9,bG,bF,au,bJ,cl⟩:=q.ps a bv aF;rw[hg]at au;obtain⟨rfl,rfl,rfl⟩:B=b9/\ad=bG/\W=bF:=by
   injection au with au;injection au with z u;injection u with u bH;exact⟨z,u,bH⟩
  have cr:=(q.key aF).1;obtain⟨U,aQ⟩:∃U,U=qK p.n p.room p.prog B a (s.last+1) ad W:=⟨_,rfl⟩;simp only[<-aQ]at m;have aD:∀h,w.heap.size<=h->d.ow h=0:=λh aT=>by
   by_cases g:d.ow h=0
   ·exact g
   ·have:=(q.low h g).2;omega
  refine wM p.b d.po a s.last (s.last+1) p.pa p.prog.length p.pc _ true w
   (λt aa l w'=>(aa≠0/\aa=U/\ag l w')\/(aa=0/\U=0/\∃(r:Tc)(i:Tk)(J:Nat),(r.1=(t.y0,t.y1,t.y2)/\r.2.1=(t.ya,t.yc)/\r.2.2.length=t.yl)/\lR p.room p.prog B a (s.last+1) ad W=some i/\t.f=i.fate/\cn 13 r=i.message/\bm 13 r=0/\In w'.heap.size w' 13 r/\bV (λh=>l.heap.size<=h/\h<J) 13 r/\bL (λh=>d.ow h=a) l w'/\l.heap.size<J/\P1 p.lo bv B p.room i.state i.mail (d.k+201+402) (λb=>(d.ow b=a\/J<=b)/\b<w'.heap.size) w'/\i.mail.length<=W.length/\kZ (l.heap.size+1) i.sends i.spawns i.links t.sa t.sl t.sc t.pa t.pl t.pc t.ka t.kl t.kc (λ_=>True) w'))
   (λh t l=>∃i d1,U=0/\lR p.room p.prog B a (s.last+1) ad W=some i/\Nf p ((s.put a (B,i.state,i.mail)).tell ld a 0 i.message) d w i h t d1 l)
   (λh t v b l=>∃i d1,U=0/\lR p.room p.prog B a (s.last+1) ad W=some i/\Nf p ((s.put a (B,i.state,i.mail)).tell ld a 0 i.message) d w i h t d1 l/\b=Sy.made p.n p.prog p.room ((s.put a (B,i.state,i.mail)).tell ld a 0 i.message) i.spawns/\(b=true->∃V aN aO c,v=.slice aN t.pl aO/\V.length=t.pl/\w.heap.size<=c/\(∀h,c<=h->d1.ow h=0)/\l.ownsRow c 60 1 v t.pl (V.map yR)/\lm p.lo p.room (d1.k+201) (λh=>v.ownBlock=some h) l.heap.size l i.spawns V c))
   (λv w'=>v=P.2/\∃E,aX p P.1 E w'/\fE 201 402 d E w w') bf aV ⟨a7,a8,a9⟩ (by rw[aj];rfl) ((λg=>by cases g)) (λ_ l ay=>?_) (λh t aa l aP bq=>?_) (λh t l aP=>?_) (λh t l F=>?_) (λh t l F=>?_) (λh t v b l F=>?_) (λh t v b l F N=>?_) (λh t v l F N=>?_) λh t v l F N=>?_
  ·have X:=q.later ay;have J:=cq (dI (p.n+1)) 2 (oM (p.n+1)) p.pa;refine((bJ.later ay).step p.prog p.pa p.pc l.heap.size X.pg.1.1 (ai _) q.pg.2.1 q.pg.2.2.1 (λ_=>q.pg.2.2.2.2) (λbC ax=>J.2.2.1 _ _ _ bC _ (λb h=>ax.block b h.2 λg=>by have:=h.1;rw[g]at this;omega) (J.2.1 _ _ _ _ X.pg.1.2 X.pg.1.1) X.pg.1.1) (aw bQ ay.size) (by omega) (by omega) a (s.last+1)).mono ?_;rintro e w' (⟨aa,rfl,y⟩|⟨r,f,sa,sl,sc,pa,pl,pc,ka,kl,kc,rfl,y⟩)
   ·obtain⟨K,S,G⟩:=y.out;have bd:=(X.later G).cells;exact⟨⟨0,0,⟨#[]⟩,none,0,0,0,none,0,0,none,0,0,none,0,0⟩,aa,rfl,ae ⟨K,S.trans aQ.symm,G⟩,λh _ aT=>G.block h aT,G.size,bd.1,bd.2.2.1⟩
   ·obtain⟨i,J,K,S,G,am,L,bY,bZ,aI,b0,bX⟩:=y.out;have bc:w'.heap[p.b]?=some (.cells (dK p s d) 70):=(aI.block p.b (aJ aV ay.size) (by rw[q.own];omega)).trans X.box;exact⟨⟨r.1.1,r.1.2.1,r.1.2.2,r.2.1.1,r.2.2.length,r.2.1.2,f,sa,sl,sc,pa,pl,pc,ka,kl,kc⟩,0,rfl,af ⟨rfl,aQ.trans K,r,i,J,⟨rfl,rfl,rfl⟩,S,G,am,L,bY,bZ,aI,b0,bX⟩,λh av bK=>aI.block h bK (by rw[aD h av];omega),aI.size,ab bc 0,ab bc 2⟩
  ·obtain⟨Q,ap,K,S,G,am,L⟩:=aP;rcases S with⟨_,e,b1⟩|⟨e,_⟩
   ·rw[if_neg (by rw[<-e];exact bq)]at m;have ax:bi (λb=>b=h) w l:=((aE K λb=>b=h).trans (aE b1 λb=>b=h) λ_ _ e=>e).trans L λ_ _ e=>e;rw[m];exact⟨e,d,q.kept ax λb g=>by rw[g];exact aD h G.1,ax.mono λb aC g=>by omega,λ_ _=>rfl,by omega,by omega,by omega,by omega⟩
   ·exact absurd e bq
  ·obtain⟨Q,ap,K,S,G,am,L⟩:=aP;rcases S with⟨e,_⟩|⟨_,bM,r,i,J,⟨ba,bb,bI⟩,b2,b4,b5,b6,br,b7,Z,cB,bs,cA,b3⟩
   ·exact absurd rfl e
   have bP:bi (λh=>d.ow h=a) Q ap:=⟨Z.os,Z.tape,Z.output,Z.size,Z.block⟩;have cv:=K.size;have cw:=Z.size;have cx:=L.size
   obtain⟨bw,bx⟩:=(q.later K).turnP aF hg bP (j:=d.k+402) (λh g=>by
    rcases g.1 with g|g
    ·exact ae g
    ·exact af (by omega)) (by omega) (bs.mono (λ_ g=>g) (by omega) (P1.lie2 bs)) (by omega)
   generalize aS:({d with ow:=Ed d Q ap a,k:=d.k+402}:gf)=d1 at bw bx;have bg:∀b,d1.ow b=if Q.heap.size<=b/\b<ap.heap.size then a else d.ow b:=λb=>by rw[<-aS];rfl
   have aU:d1.ow h=0:=by
    rw[bg,if_neg (by omega)];exact aD h G.1
   have bj:∀b,Q.heap.size<=b->0<=d1.ow b:=λb aC=>by
    rw[bg];split
    ·omega
    ·rw[aD b (by omega)];exact iD 0
   have av:aX p (s.put a (B,i.state,i.mail)) d1 l:=bw.kept L λb g=>by rw[g];exact aU
   have bU:fE 0 402 d d1 w l:=by
    have z:=((dG.later d K).un.trans bx);obtain⟨cc,cd,ce,cf,cg,ch⟩:=z;exact⟨cc.trans L λb aC g=>by omega,cd,by rw[<-aS]at ce ⊢;show d.k+402<=_;omega,cf,cg,ch⟩
   have bW:=eJ L (D:=λb=>Q.heap.size<=b/\b<ap.heap.size) (λb g cj=>by omega) ⟨br,In.offB (b7.mono λb g=>g.1) br⟩;have bN:Ew i t d1 l:=by
    obtain⟨ar,aL,aM,A,o,x,H,T,O,an,a4,b8⟩:=b3.kept L λb ci _ cD cE=>by omega
    have be:∀{a3:Nat}{aq:Tm a3},In l.heap.size l a3 aq->bV (λb=>Q.heap.size+1<=b/\True) a3 aq->Et d1 l aq:=λbD bE=>⟨bD,bE.mono λb g=>bj b (by omega)⟩;refine⟨ar,_,aL,aM,A,o,x,H,T,O,λg I=>⟨(an g I).1,be (an g I).2.1 (an g I).2.2⟩,λg I=>⟨(a4 g I).1,be (a4 g I).2.1 (a4 g I).2.2⟩,λb g=>⟨?_,bj b (by have:=(b8 b g).1;omega)⟩⟩;rcases g with g|g|g
    ·exact(o.lt b g).2
    ·exact(x.lt b g).2
    ·exact(H.lt b g).2
   obtain⟨⟨cC,ci,cj⟩,⟨cF,cG⟩,cH⟩:=r;simp only[fC]at ba bb;obtain⟨rfl,rfl,rfl⟩:=ba;obtain⟨rfl,rfl⟩:=bb;rw[<-bI];have bO:d1.es=d.es:=by rw[<-aS]
   refine(av.tell ld a 0 _ _ _ _ _ _ _ (jL bW.1 b6) (by rw[bO];omega)).mono ?_;rintro e w' ⟨rfl,y⟩;obtain⟨R,M,C⟩:=y.out.up av;have bk:=(aA.1 am).1;have cy:=C.1.size;rw[b5]at M;refine⟨rfl,i,R,bM,b2,M,(bU.trans C.un).mono (by omega) (by omega),⟨G.1,by omega,by rw[C.2.1 h bk];exact aU,?_⟩,b4,bN.kee C.1 C.2.1⟩;rw[C.1.block h bk (by rw[aU];decide)];exact am
  ·obtain⟨i,d1,z,u,⟨A,o,x,H,T⟩⟩:=F;obtain⟨ar,a6,aL,aM,Y,aY,aZ,a0,a1,al,a2,aG,aH⟩:=T;have aW:=Jj bh u;have cu:t.pl<=8:=by
    have:=aW.1.2.1;rw[<-al,fA]at this;omega
   refine(A.made aZ Y.2.1 (by omega) λg I=>⟨(aG g I).1,(aG g I).2.1⟩).mono ?_;rintro e w' ⟨v,b,rfl,y⟩;obtain⟨ao,bt,bu⟩:=y.out;rw[al]at bt bu;have bS:∀h,l.heap.size<=h->d1.ow h=0:=λh aT=>by
    by_cases g:d1.ow h=0
    ·exact g
    ·have:=(A.low h g).2;omega
   refine⟨v,b,rfl,i,d1,z,u,⟨A.later ao,(o.trans (dG.later d1 ao).un).mono (ai _) (ai _),⟨x.1,aJ x.2.1 ao.size,x.2.2.1,fj ao x.2.2.2⟩,H,Ew.kee ⟨ar,a6,aL,aM,Y,aY,aZ,a0,a1,al,a2,aG,aH⟩ (aE ao _) λ_ _=>rfl⟩,bt,λaC=>?_⟩;obtain⟨V,aN,aO,ca,a5,bz,aK⟩:=bu aC;exact⟨V,aN,aO,l.heap.size,ca,a5,o.1.size,bS,bz,aK⟩
  ·obtain⟨i,d1,z,u,A,o,x,_⟩:=F;exact x.2.2.2
  ·obtain⟨i,d1,z,u,⟨A,o,x,_⟩,_⟩:=F;exact x.2.2.2
  ·obtain⟨i,d1,z,u,⟨A,o,x,H,T⟩,_⟩:=F;rw[if_pos z,u]at m;simp only at m;rw[H]at N ⊢;rw[if_pos N]at m;refine(A.fin aR (by have:=o.2.2.2.1;omega)).mono ?_;rintro e w' ⟨rfl,y⟩;obtain⟨R,M,C⟩:=y.out;rw[m];exact⟨rfl,rfl,R,M,(o.trans C.un).mono (by omega) (by omega)⟩
  ·obtain⟨i,d1,z,u,⟨A,o,x,H,T⟩,O,_⟩:=F;rw[if_pos z,u]at m;simp only at m;rw[H]at N;rw[if_neg N,if_pos O.symm]at m;have bl:=congrArg Prod.fst m;have bo:=congrArg Prod.snd m;dsimp only at bl bo;refine(A.fin (how:=2) aR (by have:=o.2.2.2.1;omega)).mono ?_;rintro e w' ⟨rfl,y⟩;obtain⟨R,M,C⟩:=y.out;rw[<-bl]at M;exact⟨rfl,bo.symm,R,M,(o.trans C.un).mono (by omega) (by omega)⟩
  ·obtain⟨i,d1,z,u,⟨A,o,x,H,T⟩,O,an⟩:=F;rw[if_pos z,u]at m;simp only at m;rw[H]at N;have bT:¬Sy.made p.n p.prog p.room ((s.put a (B,i.state,i.mail)).tell ld a 0 i.message) i.spawns=false:=λg=>Bool.noConfusion (O.trans g);rw[if_neg N,if_neg bT]at m;obtain⟨V,aN,aO,c,rfl,a5,bz,aK,bA,cb⟩:=an rfl;obtain⟨ar,a6,aL,aM,Y,aY,aZ,a0,a1,al,a2,aG,aH⟩:=T;have aW:=Jj bh u;have bp:i.spawns.length=t.pl:=by rw[<-al,fA];exact Y.2.1
   have bR:Sy.may ((s.put a (B,i.state,i.mail)).tell ld a 0 i.message) t.pl=true:=by
    unfold Sy.made at O;rw[bp]at O;exact(Bool.and_eq_true_iff.1 O.symm).1
   have hF:=A.follow (pa:=t.pa) (pl:=t.pl) (pc:=t.pc) aR i aW t.y0 t.y1 t.y2 t.ya t.yl t.yc aY a0 bA ⟨Y.1,Y.2.2,a5,bp⟩ a1 a2 (λb g=>?_) cb (ai _) (λh g _=>aK h g) bR (by have:=o.2.2.1;omega) (by have:=o.2.2.2.1;omega) (by have:=o.2.2.2.2.1;omega) (by have:=o.2.2.2.2.2;omega)
   ·rw[<-H]at hF;refine hF.mono ?_;rintro e w' ⟨rfl,y⟩;obtain⟨R,M,C⟩:=y.out;rw[m];exact⟨rfl,rfl,R,M,o.ug C λh g=>by omega⟩
   ·rcases g with g|g|g
    ·exact(aH b (ae g)).2
    ·exact(aH b (af (af g))).2
    ·rw[aK b (bA.lt b g).1];exact iD 0
end
theorem Jb(o:Nat)(kd a b p q:Int)(r:ByteArray)(xa:Option Addr)(s xc:Nat)(w:World)(R:Int->World->Prop)(l:Hid (kd=1->∀W,ag w W->ah 26 #[.pointer (some ⟨o,0,none⟩),.int .i64 a] W λe w'=>∃v,e=.returned (.int .i64 v)/\Hid (R v w')))(h:Hid (kd=2->∀W,ag w W->ah 27 #[.pointer (some ⟨o,0,none⟩),.int .i64 a,.int .i64 b] W λe w'=>∃v,e=.returned (.int .i64 v)/\Hid (R v w')))(k:Hid (kd=3->∀W,ag w W->ah 28 #[.pointer (some ⟨o,0,none⟩),.int .i64 a,.agg #[.int .i64 p,.int .i64 q,.string r,.slice xa s xc]] W λe w'=>∃v,e=.returned (.int .i64 v)/\Hid (R v w')))(j:Hid (¬(kd=1\/kd=2\/kd=3)->∀W,ag w W->R 1 W)):ah 8 #[.pointer (some ⟨o,0,none⟩),.agg #[.int .i64 kd,.int .i64 a,.int .i64 b,.int .i64 p,.int .i64 q,.string r,.slice xa s xc]] w λe w'=>∃v,e=.returned (.int .i64 v)/\Hid (R v w'):=by
 go_enter Tryz.func8,Tryz.ntmps8;go_upto_region 1 with fail;generalize u:w.alloc _=c;have HB:Hid (ag w c):=by
  rw[<-u];exact(ak _ _).alloc (ai _) _
 have d:c.heap[w.heap.size]?=some (.cells #[.int .i64 kd,.int .i64 a,.int .i64 b,.int .i64 p,.int .i64 q,.string r,.slice xa s xc] 32):=by
  rw[<-u];exact ax _ _
 generalize w.heap.size=f at*;clear u;have B:c.cell? ⟨f,0,none⟩=some (.int .i64 kd):=ab d 0;have d1:c.cell? ⟨f,1,none⟩=some (.int .i64 a):=ab d 1;have C:c.cell? ⟨f,2,none⟩=some (.int .i64 b):=ab d 2;have D:c.cell? ⟨f,3,none⟩=some (.int .i64 p):=ab d 3;have E:c.cell? ⟨f,4,none⟩=some (.int .i64 q):=ab d 4;have F:c.cell? ⟨f,5,none⟩=some (.string r):=ab d 5;have G:c.cell? ⟨f,6,none⟩=some (.slice xa s xc):=ab d 6;clear d;by_cases m:kd=1
 ·have i:=aj (l.out m _ HB.out);subst m;clear l h k j;go_wp2_with fail;refine i.out.mono ?_;rintro e y ⟨v,rfl,g⟩;go_wp2_with fail
  go_ret
  exact⟨v,rfl,g.out⟩
 have x:(kd==1)=false:=by simpa using m
 by_cases n:kd=2
 ·have i:=aj (h.out n _ HB.out);subst n;clear l h k j m x;go_wp2_with fail;refine i.out.mono ?_;rintro e y ⟨v,rfl,g⟩;go_wp2_with fail
  go_ret
  exact⟨v,rfl,g.out⟩
 have A:(kd==2)=false:=by simpa using n
 by_cases t:kd=3
 ·have i:=aj (k.out t _ HB.out);subst t;clear l h k j m x n A;go_wp2_with fail;refine i.out.mono ?_;rintro e y ⟨v,rfl,g⟩;go_wp2_with fail
  go_ret
  exact⟨v,rfl,g.out⟩
 have H:(kd==3)=false:=by simpa using t
 have z:=aj (j.out (by omega) _ HB.out);clear l h k j;go_wp2_with fail
 go_ret
 exact⟨1,rfl,z.out⟩
section
variable {p:lh} {s:Sy} {d:gf} {w:World}
theorem aX.do(o:aX p s d w){kd a b:Int}(u:I2 (a,b)){m:Nat}(x:Tm (m+1))(y:In w.heap.size w (m+1) x/\bV (λq=>¬1<=d.ow q) (m+1) x)(A:(ar (m+1) x).length<=2097152)(C:d.k<=46000)(z:d.es.length<=96000)(D:d.wn<=800000)(B:d.bn<=800000):ah 8 #[.pointer (some ⟨p.b,0,none⟩),.agg #[.int .i64 kd,.int .i64 a,.int .i64 b,.int .i64 x.1.1,.int .i64 x.1.2.1,.string x.1.2.2,.slice x.2.1.1 x.2.2.length x.2.1.2]] w λe w'=>∃v,e=.returned (.int .i64 v)/\Hid (v=(s.do p.n p.prog p.room kd a b (m+1) x).2/\∃f,aX p (s.do p.n p.prog p.room kd a b (m+1) x).1 f w'/\fE 201 402 d f w w'):=by
 obtain⟨r,g⟩:∃r,r=s.do p.n p.prog p.room kd a b (m+1) x:=⟨_,rfl⟩;rw[<-g];unfold Sy.do at g;refine Jb p.b kd a b x.1.1 x.1.2.1 x.1.2.2 x.2.1.1 x.2.2.length x.2.1.2 w (λv w'=>v=r.2/\∃f,aX p r.1 f w'/\fE 201 402 d f w w') (λe t c=>?_) (λe t c=>?_) (λe t c=>?_) λe t c=>?_
 ·rw[if_pos e]at g;refine((o.later c).run u.1 C z D B).mono ?_;rintro e w' ⟨v,rfl,h⟩;obtain⟨i,f,j,l⟩:=h.out;rw[g];exact⟨v,rfl,i,f,j,((dG.later d c).un.trans l).mono (by omega) (by omega)⟩
 ·rw[if_neg (by omega),if_pos e]at g;refine((o.later c).arrive u (by omega) (by omega) (by omega)).mono ?_;rintro e w' ⟨v,rfl,h⟩;obtain⟨i,f,j,l⟩:=h.out;rw[g];exact⟨v,rfl,i,f,j,((dG.later d c).un.trans l).mono (by omega) (by omega)⟩
 ·rw[if_neg (by omega),if_neg (by omega),if_pos e]at g;refine((o.later c).inject u.1 x ⟨(y.1.below c).mono c.size,y.2⟩ A (by omega) (by omega)).mono ?_;rintro e w' ⟨v,rfl,h⟩;obtain⟨i,f,j,l⟩:=h.out;rw[g];exact⟨v,rfl,i,f,j,((dG.later d c).un.trans l).mono (by omega) (by omega)⟩
 ·rw[if_neg (by omega),if_neg (by omega),if_neg (by omega)]at g;rw[g];exact⟨rfl,d,o.later c,(dG.later d c).un.mono (by omega) (by omega)⟩
end
theorem Ga(y:Option Addr)(A z:Nat)(room E:Int)(w:World)(n:Int->Int->ByteArray->Option Addr->Nat->Nat->World->Prop)(r:Option Addr->Nat->Nat->World->Prop)(R:Value->Int->World->Prop)(x:Hid (ah 34 #[.slice y A z] w λe w'=>∃y0 y1 y2 ya yl yc,e=.returned (.tuple #[.agg #[.int .i64 y0,.int .i64 y1,.string y2,.slice ya yl yc],.int .i64 E])/\Hid (n y0 y1 y2 ya yl yc w')))(j:Hid (E=0->(0<=room/\room<=1000)->∀y0 y1 y2 ya yl yc W b,n y0 y1 y2 ya yl yc W->ag W b->ah 35 #[.agg #[.int .i64 y0,.int .i64 y1,.string y2,.slice ya yl yc]] b λe w'=>∃a l c h,e=.returned (.tuple #[.slice a l c,.int .i64 h])/\Hid (r a l c w')))(g:Hid (∀y0 y1 y2 ya yl yc W b,n y0 y1 y2 ya yl yc W->ag W b->(E≠0->R (.pointer none) E b)/\(E=0->¬(0<=room/\room<=1000)->R (.pointer none) 1 b)))(k:Hid (∀a l c W,E=0->(0<=room/\room<=1000)->r a l c W->R (.pointer (some ⟨W.heap.size,0,none⟩)) 0 (W.alloc (.cells #[.slice a l c,.int .i64 room,.int .i64 0,.map none,.map none,.map none,.slice none 0 0] 70)))):ah 17 #[.slice y A z,.int .i64 room] w λe w'=>∃v h,e=.returned (.tuple #[v,.int .i64 h])/\Hid (R v h w'):=by
 go_enter Tryz.func17,Tryz.ntmps17;go_wp2_with fail;refine x.out.mono ?_;rintro e i ⟨y0,y1,y2,ya,yl,yc,rfl,d⟩;clear x;have m:Hid (∀o,ag i (i.alloc o)):=λo=>(ak _ _).alloc (ai _) o;by_cases p:E=0;rotate_left
 ·have f:Hid (∀o,R (.pointer none) E (i.alloc o)):=λo=>(g.out _ _ _ _ _ _ _ _ d.out (m.out o)).1 p;have F:(E==0)=false:=by simpa using p
  clear j g k d;go_wp2_with fail;exact ap (v:=.tuple #[.pointer none,.int .i64 E]) (by simp[results,Tryz.results17,go_sem]) rfl ⟨_,_,rfl,f.out _⟩
 subst p;by_cases q:0<=room/\room<=1000;rotate_left
 ·have f:Hid (∀o,R (.pointer none) 1 (i.alloc o)):=λo=>(g.out _ _ _ _ _ _ _ _ d.out (m.out o)).2 rfl q;clear j g k d;by_cases B:room<0
  ·go_wp2_with fail;exact ap (v:=.tuple #[.pointer none,.int .i64 1]) (by simp[results,Tryz.results17,go_sem]) rfl ⟨_,_,rfl,f.out _⟩
  ·have C:1000<room:=by omega
   go_wp2_with fail;exact ap (v:=.tuple #[.pointer none,.int .i64 1]) (by simp[results,Tryz.results17,go_sem]) rfl ⟨_,_,rfl,f.out _⟩
 have t:=aj (λb=>j.out rfl q y0 y1 y2 ya yl yc i b d.out);have u:=aj (λa l c W=>k.out a l c W rfl q);have B:¬room<0:=by omega
 have C:¬1000<room:=by omega
 clear j k g d;go_wp2_with fail;refine(t.out _ (m.out _)).mono ?_;rintro e D ⟨a,l,c,h,rfl,s⟩;have f:=aj (u.out _ _ _ _ s.out);clear t u s;go_wp2_with fail;exact ap (v:=.tuple #[.pointer (some ⟨D.heap.size,0,none⟩),.int .i64 0]) (by simp[results,Tryz.results17,go_sem]) rfl ⟨_,_,rfl,f.out⟩
def JV:Sy:=⟨0,[],λ_=> [],λ_=>false,[]⟩
def A7(n:Nat)(l:List (Bh (n+1)))(room:Int):Int:=if mZ n l≠0 then mZ n l else if 0<=room/\room<=1000 then 0 else 1
def Mc(n:Nat)(l:List (Bh (n+1)))(room:Int)(w:World)(v:Value)(d:Int)(w':World):Prop:=
 d=A7 n l room/\ag w w'/\(d≠0->v=.pointer none)/\(d=0->∃(a:lh)(c:gf),v=.pointer (some ⟨a.b,0,none⟩)/\aX a JV c w'/\(c.k=0/\c.es=[]/\c.wn=0/\c.bn=0)/\a.room=room/\a.lo=w.heap.size/\a.n=n+5/\au (a.n+6) (bR a.n a.prog) (n+6) (bR n l)=true)
theorem A8(n:Nat)(l:List (Bh (n+1)))(y:Option Addr)(q:Nat)(room:Int)(w:World)(X:gF (n+1) w.heap.size w y l)(Y:l.length<=q)(Z:q<=maxLen)(H:jP (n+1) l=true->(ar (n+6) (bR n l)).length<=2097152):ah 17 #[.slice y l.length q,.int .i64 room] w λe w'=>∃v O,e=.returned (.tuple #[v,.int .i64 O])/\Hid (Mc n l room w v O w'):=by
 refine Ga y l.length q room (mZ n l) w (λy0 y1 y2 ya yl yc d=>ag w d/\∃f:Tm (n+6),(f.1=(y0,y1,y2)/\f.2.1=(ya,yc)/\f.2.2.length=yl)/\In d.heap.size d (n+6) f/\au (n+6) f (n+6) (Jt n l)=true)
  (λi h c d=>∃g:List (Bh (n+6)),g.length=h/\(∃A,ag w A/\ag A d)/\(h<=c/\c<=maxLen)/\gF (n+6) d.heap.size d i g/\sD (jt (n+6) λb=>w.heap.size<=b) (λb=>w.heap.size<=b) i g/\mZ (n+5) g=0/\au (n+11) (bR (n+5) g) (n+6) (bR n l)=true) (Mc n l room w) ?_ (λj u y0 y1 y2 ya yl yc d r p o=>?_) (λy0 y1 y2 ya yl yc d r p o=>⟨λj=>?_,λj u=>?_⟩) λi h c d j u hF=>?_
 ·refine(Ju n l y q Y Z w.heap.size w X (ai _) H).mono ?_;rintro e w' ⟨f,rfl,z⟩;obtain⟨R,S,av,T⟩:=z.out;exact⟨f.1.1,f.1.2.1,f.1.2.2,f.2.1.1,f.2.2.length,f.2.1.2,rfl,R,f,⟨rfl,rfl,rfl⟩,S,T⟩
 ·obtain⟨m,f,⟨F,G,Q⟩,D,x⟩:=p;obtain⟨⟨aF,aG,aH⟩,⟨aI,aJ⟩,aK⟩:=f;simp only[fC]at F G;obtain⟨rfl,rfl,rfl⟩:=F;obtain⟨rfl,rfl⟩:=G;subst Q;obtain⟨ao,ap,aq⟩:=Gl j x;refine(zY (n+5) (n+6) (ai _) _ r.heap.size r ((D.below o).mono o.size) (eH ao) (ai _)).mono ?_;rintro e w' ⟨g,i,c,rfl,z⟩;obtain⟨af,aj,al,am,az,an⟩:=z.out;obtain⟨a,ab,ad⟩:=an ap;obtain⟨aC,M,N,aD,aE⟩:=aq a g ab ad;have I:=m.trans (o.mono m.size);have ay:=I.size;have h:=cq (dI (n+6)) 2 (oM (n+6)) i;rw[(fx M).2.2,(fx j).2.2]at N;exact⟨i,g.length,c,_,rfl,g,rfl,⟨r,I,af⟩,aj,al,h.1 _ _ _ (λb a=>by omega) am,M,N⟩
 ·have m:=p.1.trans (o.mono p.1.size);exact⟨by unfold A7;rw[if_pos j],m,λ_=>rfl,λa=>absurd a j⟩
 ·have m:=p.1.trans (o.mono p.1.size);exact⟨by unfold A7;rw[if_neg (by rw[j];decide),if_neg u],m,λ_=>rfl,(λa=>by cases a)⟩
 ·obtain⟨g,rfl,⟨A,E,P⟩,J,C,K,aa,x⟩:=hF;have m:=E.trans (P.mono E.size);have L:=m.size;have s:ag d (d.alloc (.cells #[.slice i g.length c,.int .i64 room,.int .i64 0,.map none,.map none,.map none,.slice none 0 0] 70)):=(ak _ _).alloc (ai _) _;generalize U:d.alloc (.cells #[.slice i g.length c,.int .i64 room,.int .i64 0,.map none,.map none,.map none,.slice none 0 0] 70)=B at s;have t:B.heap[d.heap.size]?=some (.cells #[.slice i g.length c,.int .i64 room,.int .i64 0,.map none,.map none,.map none,.slice none 0 0] 70):=by
   rw[<-U];exact ax _ _
  have aw:=(aA.1 t).1;refine⟨by unfold A7;rw[if_neg (by rw[j];decide),if_pos u],m.trans (s.mono m.size),λa=>absurd rfl a,λ_=>⟨⟨w.heap.size,d.heap.size,room,n+5,g,i,c⟩,⟨λb=>if b=d.heap.size then -5 else if w.heap.size<=b/\b<d.heap.size then -4 else 0,none,[],none,0,λ_=> [],λ_=>lK,none,0,.slice none 0 0,[],0⟩,rfl,?_,⟨rfl,rfl,rfl,rfl⟩,rfl,rfl,rfl,x⟩⟩;have h:=cq (dI (n+6)) 2 (oM (n+6)) i;refine⟨λb a=>?_,t,if_pos rfl,⟨⟨?_,?_⟩,J.1,J.2,aa,?_⟩,ae ⟨rfl,rfl⟩,⟨rfl,List.nodup_nil,by simp[JV],by decide,by decide,by simp[JV]⟩,?_,⟨⟨L,(pK t).1,ae ⟨rfl,rfl,rfl⟩⟩,?_,λ_=>rfl,λ_=>aB _,?_⟩,⟨⟨L,(pK t).2,ae ⟨rfl,rfl⟩⟩,?_,(λb a=>by cases a)⟩,⟨ee _ _ _ _,(λb a=>by cases a)⟩,rfl,(λe V=>by cases V)⟩
  ·have a:(if b=d.heap.size then (-5:Int)else if w.heap.size<=b/\b<d.heap.size then -4 else 0)≠0:=a;show w.heap.size<=b/\b<B.heap.size;split at a
   ·omega
   ·split at a
    ·omega
    ·exact absurd rfl a
  ·exact h.2.2.2.1 _ _ _ _ s.size (h.2.2.1 _ _ _ B _ (λb a=>s.block b a.2) (h.2.1 _ _ _ _ K C) C)
  ·refine h.1 _ _ _ (λb a=>?_) (h.2.1 _ _ _ _ K C);exact(if_neg (by omega)).trans (if_pos ⟨a.1,a.2⟩)
  ·rw[jS _ _ _ _ x];exact H (fx j).1
  ·intro k b a;cases a
  ·intro b a;rcases a with a|a|⟨k,_,a⟩
   ·exact ae a
   ·cases a
   ·cases a
  ·intro k f D;cases D
  ·intro k W;cases W
theorem zx(xs:List Value)(g len c:Nat)(w:World)(v:Hid (xs.length=len*7))(t:Hid (∀d∈xs,d.oneCell'=true))(E:len<=2000000)(x:Hid (∀w1,ag w w1->∀j d,xs[j]?=some d->w1.cell? ((⟨g,0,none⟩:Addr).add j)=some d)):ah 53 #[.slice (some ⟨g,0,none⟩) len c] w λe w'=>∃r,e=.returned r/\Hid (ag w w'/\w'.ownsRow w.heap.size 40 7 r len xs):=by
 obtain⟨C,l,o,p,q⟩:=bO Ig;have a:=aj (⟨l,o,p,q⟩:_/\_/\_/\_);clear l o p q;have F:∀(w:World)(b:Option Addr)(n c h f:Nat),(binOp .eql 38 (.slice b n c) (.slice none h f)).run Tryz.prog w=.ok (.bool b.isNone) w:=λw b n c h f=>Lib.run_eql_slice_nil w _ _ b n c h f Tryz.underlying38;have D:(some (⟨g,0,none⟩:Addr)).isNone=false:=rfl;go_enter Tryz.func53,Tryz.ntmps53;go_wp2_with (at_builtin;refine wpList_append_own _ rfl _ _ 38 rfl w.heap.size 40 C _ 7 88 Tryz.underlying38 a.out.1 a.out.2.1 a.out.2.2.1 a.out.2.2.2 rfl (by decide) _ _ _ rfl (World.ownsRow_made w #[] 0 (ai _) (aB _) (by simp)) ⟨g,0,none⟩ len c xs rfl ?qc1 ?qc2 ?qc3 ?qc4 ?qc5 ?qc6 ?_)
 case qc1=>exact v.out
 case qc2=>exact x.out _ ((ak _ _).alloc (ai _) _)
 case qc3=>exact t.out
 case qc4=>unfold maxLen;omega
 case qc5=>omega
 case qc6=>simp
 intro s w1 m i A;have u:Hid (ag w w1/\w1.ownsRow w.heap.size 40 7 s len xs):=by
  have y:ag w w1:=Below.grown ((ak _ _).alloc (ai _) _) i (by simp) (by intro k z;simp[Value.ownBlock]at z;omega);have B:w1.ownsRow w.heap.size 40 7 s len xs:=by simpa using m
  exact⟨y,B⟩
 clear m i A;go_wp2_with fail
 go_ret
 exact⟨_,rfl,u.out⟩
theorem zw(c:Nat)(w:World):ah 53 #[.slice none 0 c] w λe w'=>e=.returned (.slice none 0 0)/\w'=w:=by
 have g:∀(w:World)(a:Option Addr)(n c d b:Nat),(binOp .eql 38 (.slice a n c) (.slice none d b)).run Tryz.prog w=.ok (.bool a.isNone) w:=λw a n c d b=>Lib.run_eql_slice_nil w _ _ a n c d b Tryz.underlying38;have f:(none:Option Addr).isNone=true:=rfl;go_enter Tryz.func53,Tryz.ntmps53;go_wp2_with fail
 go_ret
 exact⟨rfl,rfl⟩
theorem Hv(h:Nat)(q:Option Addr)(L d:Nat)(v x:Nat->Int)(y:Nat->ByteArray)(xa:Nat->Option Addr)(z xc:Nat->Nat)(w:World)(k:Option Addr->Nat->Nat->World->Prop)(E:h<w.heap.size)(U:L<=1000000)(V:L<=d)(F:q=none/\L=0/\d=0\/∃g,q=some ⟨g,0,none⟩)(r:Hid (w.cell? ⟨h,6,none⟩=some (.slice q L d)))(s:Hid (∀W,ag w W->ah 53 #[.slice q L d] W λe w'=>∃a c,e=.returned (.slice a L c)/\Hid (ag W w'/\k a c 0 w')))(t:Hid (∀a c j W,j<L->k a c j W->∃g,a=some ⟨g,0,none⟩/\W.cell? ⟨g,j*7+3,none⟩=some (.int .i64 (v j))/\W.cell? ⟨g,j*7+3+1,none⟩=some (.int .i64 (x j))/\W.cell? ⟨g,j*7+3+2,none⟩=some (.string (y j))/\W.cell? ⟨g,j*7+3+3,none⟩=some (.slice (xa j) (z j) (xc j))/\ Hid (ah 54 #[.agg #[.int .i64 (v j),.int .i64 (x j),.string (y j),.slice (xa j) (z j) (xc j)]] W λe w'=>∃y0 y1 y2 ya yl yc,e=.returned (.agg #[.int .i64 y0,.int .i64 y1,.string y2,.slice ya yl yc])/\Hid ((w'.frozen? ⟨g,j*7+3,none⟩=false/\w'.frozen? ⟨g,j*7+3+1,none⟩=false/\w'.frozen? ⟨g,j*7+3+2,none⟩=false/\w'.frozen? ⟨g,j*7+3+3,none⟩=false)/\(w'.cell? ⟨g,j*7+3,none⟩=some (.int .i64 (v j))/\w'.cell? ⟨g,j*7+3+1,none⟩=some (.int .i64 (x j))/\w'.cell? ⟨g,j*7+3+2,none⟩=some (.string (y j))/\w'.cell? ⟨g,j*7+3+3,none⟩=some (.slice (xa j) (z j) (xc j)))/\k a c (j+1) (cE w' g (j*7+3) (.int .i64 y0) (.int .i64 y1) (.string y2) (.slice ya yl yc)))))):ah 30 #[.pointer (some ⟨h,0,none⟩),.int .i64 0] w λe w'=>∃a c,e=.returned (.slice a L c)/\Hid (k a c L w'):=by
 have b:Hid (ag w w.drew):=(ak _ _).drew;have i:Hid (∀W,ag w W->W.cell? ⟨h,6,none⟩=some (.slice q L d)):=λW C=>(C.cell (p:=⟨h,6,none⟩) E).trans r.out;have M:=r.out;have aa:¬((L:Int)<0):=by omega
 have ab:(0:Int)<=(L:Int):=by omega
 have ad:(L:Int)<=(d:Int):=by omega
 have ae:¬((d:Int)<(L:Int)):=by omega
 have af:¬(d<L):=by omega
 have ai:min (0:Int) (L:Int)=0:=by omega
 go_enter Tryz.func30,Tryz.ntmps30;go_upto_region 1 with fail;rcases F with⟨rfl,rfl,rfl⟩|⟨B,rfl⟩
 ·go_region_held3 (λW=>W.cell? ⟨h,6,none⟩=some (.slice none 0 0)) (first|exact i.out _ b.out|exact i.out _ m.out) ((first
    | (go_at_call 53;refine(s.out _ b.out).mono ?_;rintro e G ⟨a,c,rfl,f⟩;have m:=aj (b.out.trans (f.out.1.mono b.out.size)))))
  have l:=aj f.out.2;clear s r i b m t f;go_wp2_with fail;go_loopw [6,23] (λ_ o wr=>o=.int .i64 0/\Hid (k a c 0 wr)) (λ_ _ _=>0)
  case atStart=>exact⟨rfl,l.out⟩
  case round=>
  obtain⟨rfl,n⟩:=hrel;clear l;go_wp2_with fail
  go_ret
  exact⟨a,c,rfl,n.out⟩
 ·go_region_held3 (λW=>W.cell? ⟨h,6,none⟩=some (.slice (some ⟨B,0,none⟩) L d)) (first|exact i.out _ b.out|exact i.out _ m.out) ((first
    | (go_at_call 53;refine(s.out _ b.out).mono ?_;rintro e G ⟨a,c,rfl,f⟩;have m:=aj (b.out.trans (f.out.1.mono b.out.size)))))
  clear s r i b m;have l:=aj f.out.2;clear f;go_wp2_with fail;go_loopw [6,23] (λ_ o wr=>∃(j:Nat),j<=L/\o=.int .i64 j/\Hid (k a c j wr)) (λ_ o _=>L-(intOf o).toNat)
  case atStart=>exact⟨0,aB _,rfl,l.out⟩
  case round=>
  obtain⟨j,X,rfl,n⟩:=hrel;by_cases D:j<L
  ·obtain⟨g,rfl,H,I,J,K,A⟩:=t.out a c j wr D n.out;have Y:(0:Int)<=(j:Int):=by omega
   have Z:(j:Int)<(L:Int):=by omega
   clear t n;go_wp2_with fail;refine A.out.mono ?_;rintro e al ⟨y0,y1,y2,ya,yl,yc,rfl,u⟩;obtain⟨⟨Q,R,S,T⟩,N,d1,O,P⟩:=(⟨u.out.1,u.out.2.1⟩:_/\_);go_wp2_with fail;go_roundw
   case rel=>exact⟨j+1,by omega,by go_num,u.out.2.2⟩
   case measure=>simp[intOf];omega
  ·obtain rfl:j=L:=by omega
   clear t l;go_wp2_with fail
   go_ret
   exact⟨a,c,rfl,n.out⟩
def LA(base:Nat)(a:Option Addr)(d:List (ByteArray×Int×Int×Tc))(w:World):Prop:=
 (d=[]\/∃c,a=some ⟨c,0,none⟩/\base<=c/\c<w.heap.size/\∀e b,d[e]?=some b->∀(t:Nat)(f:Value),(GK b)[t]?=some f->w.cell? ⟨c,e*7+t,none⟩=some f)/\∀b∈d,(In w.heap.size w 13 b.2.2.2/\bV (λg=>base<=g) 13 b.2.2.2)/\zN b.2.2.2
def DA(a:Option Addr)(L c:Nat):Prop:=(a=none/\L=0/\c=0)\/((∃g,a=some ⟨g,0,none⟩)/\L<=c)
def Ms(e:ByteArray×Int×Int×Tc):ByteArray×Int×Int×Tc:=(e.1,e.2.1,e.2.2.1,cn 13 e.2.2.2)
theorem EM(xa:Option Addr)(xc:Nat)(w:World):M4 0 0 ⟨#[]⟩ xa 0 xc ve w:=λW h=>by
 refine(rk 12 0 0 ⟨#[]⟩ xa 0 xc [] W (by decide) λw1 c=>?_).mono ?_
 ·refine(kL xa xc w1).mono ?_;rintro e w' ⟨rfl,rfl⟩;exact⟨none,0,[],rfl,ak _ _,rfl,ai _,aB _,rfl,ae rfl⟩
 ·rintro e w' ⟨a,b,l,rfl,H⟩;obtain⟨c,d,g,f,_⟩:=H.out;obtain rfl:l=[]:=bD d;exact⟨0,0,⟨#[]⟩,a,0,b,rfl,c,((0,0,⟨#[]⟩),(a,b),[]),⟨rfl,rfl,rfl⟩,⟨⟨⟨show dh 0 by unfold dh;decide,show dh 0 by unfold dh;decide,show (0:Nat)<=maxLen from aB _,aB _,f⟩,ae rfl⟩,ae rfl⟩,rfl,af ⟨rfl,rfl⟩⟩
theorem Mo{x:Tc}{w:World}(d:In w.heap.size w 13 x)(a:zN x):M4 x.1.1 x.1.2.1 x.1.2.2 x.2.1.1 x.2.2.length x.2.1.2 (cn 13 x) w:=by
 rcases a with a|⟨b,c⟩
 ·exact jL d a
 ·obtain⟨⟨g,h,i⟩,⟨e,f⟩,j⟩:=x;simp only[fC]at b c;obtain⟨rfl,rfl,rfl⟩:=b;subst c;exact EM e f w
theorem Kx(l:List (ByteArray×Int×Int×Tc)):∀b∈l.flatMap GK,b.oneCell'=true:=λb c=>by
 obtain⟨e,_,a⟩:=jd.1 c;simp only[GK,cv,fW,gd]at a;rcases a with rfl|rfl|rfl|rfl|rfl|rfl|rfl<;>rfl
section
variable {p:lh} {s:Sy} {d:gf} {w:World}
theorem aX.eventsF(B:aX p s d w)(a6:d.es.length<=100000):ah 30 #[.pointer (some ⟨p.b,0,none⟩),.int .i64 0] w λe w'=>∃a c,e=.returned (.slice a d.es.length c)/\Hid (ag w w'/\DA a d.es.length c/\∃al,al.length=d.es.length/\al.map Ms=s.evs/\LA w.heap.size a al w'):=by
 obtain⟨H,D,av,aT,ax⟩:∃H D,d.ev=.slice H d.es.length D/\d.es.length<=D/\(H=none/\d.es.length=0/\D=0\/∃g,H=some ⟨g,0,none⟩):=by
  rcases B.evr.1.2 with⟨e,Q⟩|⟨g,c,an,e,_,_,k,_⟩
  ·exact⟨none,0,by rw[e,Q],by omega,ae ⟨rfl,Q,rfl⟩⟩
  ·exact⟨_,c,e,k,af ⟨g,rfl⟩⟩
 obtain⟨q,R⟩:∃q:Nat->ByteArray×Int×Int×Tc,∀h,h<d.es.length->d.es[h]?=some (q h):=⟨λh=>d.es.getD h (⟨#[]⟩,0,0,ve),λh C=>by
  simp only[l6,aD C]
  rfl⟩
 have aU:∀j,ag w j->∀h,h<d.es.length->In j.heap.size j 13 (q h).2.2.2/\zN (q h).2.2.2:=λj z h C=>by
  have:=(B.later z).evt.2 _ (aC (R h C));exact⟨this.1.1,this.2⟩
 have X:=B.evr.1;rw[av]at X;have aF:w.cell? ⟨p.b,6,none⟩=some (.slice H d.es.length D):=by
  have E:=ab B.box 6;simp only[dK,cG,cT]at E;rw[av]at E;exact E
 refine(Hv p.b H d.es.length D (λh=>(q h).2.2.2.1.1) (λh=>(q h).2.2.2.1.2.1) (λh=>(q h).2.2.2.1.2.2) (λh=>(q h).2.2.2.2.1.1) (λh=>(q h).2.2.2.2.2.length) (λh=>(q h).2.2.2.2.1.2) w
  (λa c h j=>ag w j/\DA a d.es.length c/\(d.es.length=0\/∃(g:Nat)(f:Nat->ByteArray×Int×Int×Tc),a=some ⟨g,0,none⟩/\(w.heap.size<=g/\g<j.heap.size)/\(∀o,j.frozen? ⟨g,o,none⟩=false)/\(∀i,i<d.es.length->∀(t:Nat)(n:Value),(GK (f i))[t]?=some n->j.cell? ⟨g,i*7+t,none⟩=some n)/\(∀i,i<h->(Ms (f i)=Ms (q i)/\zN (f i).2.2.2)/\In j.heap.size j 13 (f i).2.2.2/\bV (λr=>w.heap.size<=r/\r≠g) 13 (f i).2.2.2)/\∀i,h<=i->i<d.es.length->f i=q i)) B.lo.2 (by omega) aT ax aF (λj z=>?_) (λa c h j C L=>?_)).mono ?_
 ·rcases ax with⟨rfl,Q,rfl⟩|⟨g,rfl⟩
  ·rw[Q];refine(zw 0 j).mono ?_;rintro e w' ⟨rfl,rfl⟩;exact⟨none,0,rfl,ak _ _,z,ae ⟨rfl,rfl,rfl⟩,ae rfl⟩
  ·have x:=X.lt g rfl;refine(zx (d.es.flatMap GK) g d.es.length D j X.1 (Kx _) (by omega) λbd A h n m=>?_).mono ?_
   ·have E:=World.ownsRow.cells X (g:=g) rfl h n m;have aJ:=z.trans (A.mono z.size);exact(aJ.cell (p:=(⟨g,0,none⟩:Addr).add h) (by simp only[Addr.add];split<;>exact x.2)).trans E
   ·rintro e w' ⟨bc,rfl,I⟩;obtain⟨y,F⟩:=I.out;obtain⟨a,c,aG,ao,ap⟩:=qD F (by decide) λP=>rfl;subst aG;have N:DA a d.es.length c:=by
     rcases F.2 with⟨v,Y⟩|⟨J,a4,an,v,_,_,Y,_⟩
     ·injection v with v az aA;exact ae ⟨v,Y,aA⟩
     ·injection v with v az aA;exact af ⟨⟨J,v⟩,by omega⟩
    refine⟨a,c,rfl,y,z.trans (y.mono z.size),N,?_⟩;by_cases K:d.es.length=0
    ·exact ae K
    ·obtain⟨J,v,Y,az⟩:=ap 0 _ (R 0 (by omega));obtain⟨an,aK⟩:=dQ F J (ao _ v);have a7:=z.size;refine af ⟨J,q,v,⟨by have:=(F.lt J (ao _ v)).1;omega,Y⟩,λo=>by simp[World.frozen?,aK],λi l t n m=>?_,λi l=>by omega,λ_ _ _=>rfl⟩;obtain⟨a5,G,bb,a1⟩:=ap i _ (R i l);rw[v]at G;injection G with G;injection G with G;subst G;exact a1 t n m
 ·obtain⟨A,N,L⟩:=L;rcases L with K|⟨g,f,rfl,x,ay,T,S,M⟩
  ·omega
  have aM:=M h (ai _) C;have k:=T h C;rw[aM]at k;refine⟨g,rfl,k 3 _ rfl,k 4 _ rfl,k 5 _ rfl,k 6 _ rfl,?_⟩;obtain⟨a2,a3⟩:=aU j A h C;refine(Mo a2 a3 j (ak _ _)).mono ?_;rintro e w' ⟨y0,y1,y2,ya,yl,yc,rfl,I⟩;obtain⟨y,aB,⟨ar,au,aH⟩,⟨F,aY⟩,aZ,a0⟩:=I.out;have u:∀{o:Nat}{n:Value},j.cell? ⟨g,o,none⟩=some n->w'.cell? ⟨g,o,none⟩=some n:=λ{o n} r=>(y.cell (p:=⟨g,o,none⟩) x.2).trans r;have O:∀o,w'.frozen? ⟨g,o,none⟩=false:=λo=>(y.frozen (p:=⟨g,o,none⟩) x.2).trans (ay o);refine⟨y0,y1,y2,ya,yl,yc,rfl,⟨O _,O _,O _,O _⟩,⟨u (k 3 _ rfl),u (k 4 _ rfl),u (k 5 _ rfl),u (k 6 _ rfl)⟩,?_⟩;have aO:=nt w' g (h*7+3) (.int .i64 y0) (.int .i64 y1) (.string y2) (.slice ya yl yc);have ba:=bf (w:=w') (g:=g) (o:=h*7+3) (.int .i64 y0) (.int .i64 y1) (.string y2) (.slice ya yl yc);have V:=wk (.int .i64 y0) (.int .i64 y1) (.string y2) (.slice ya yl yc) ⟨u (k 3 _ rfl),u (k 4 _ rfl),u (k 5 _ rfl),u (k 6 _ rfl)⟩;have U:=λo (aQ:o<h*7+3\/h*7+3+4<=o)=>AL (w:=w') (g:=g) (v0:=.int .i64 y0) (v1:=.int .i64 y1) (v2:=.string y2) (v3:=.slice ya yl yc) o aQ;have aN:=λo=>(sj (w:=w') (g:=g) (o:=h*7+3) (v0:=.int .i64 y0) (v1:=.int .i64 y1) (v2:=.string y2) (v3:=.slice ya yl yc) o).trans (O o);have aR:ag w (cE w' g (h*7+3) (.int .i64 y0) (.int .i64 y1) (.string y2) (.slice ya yl yc)):=dm (A.trans (y.mono A.size)) x.1;generalize cE w' g (h*7+3) (.int .i64 y0) (.int .i64 y1) (.string y2) (.slice ya yl yc)=am at*;have a8:=y.size;have a9:=A.size;have aw:∀{Z:Tc},In w'.heap.size w' 13 Z->bV (λr=>w.heap.size<=r/\r≠g) 13 Z->In am.heap.size am 13 Z/\bV (λr=>w.heap.size<=r/\r≠g) 13 Z:=λaV aW=>eJ aO (λr P aE=>P.2 aE) ⟨aV,aW⟩;refine⟨aR,N,af ⟨g,λi=>if i=h then ((q h).1,(q h).2.1,(q h).2.2.1,aB)else f i,rfl,⟨x.1,by omega⟩,aN,λi l t n m=>?_,λi l=>?_,λi E aI=>?_⟩⟩
  ·have aS:t<7:=by
     have:=(aL.1 m).1;simpa [GK]using this
   by_cases e:i=h
   ·subst e;simp only[cH]at m;obtain⟨⟨be,bg,aE⟩,⟨bh,bi⟩,bj⟩:=aB;simp only[fC]at ar au;obtain⟨rfl,rfl,rfl⟩:=ar;obtain⟨rfl,rfl⟩:=au;subst aH
    match t,aS with
    | 0,_=>exact(U _ (by omega)).trans (u (k 0 n m))
    | 1,_=>exact(U _ (by omega)).trans (u (k 1 n m))
    | 2,_=>exact(U _ (by omega)).trans (u (k 2 n m))
    | 3,_=>exact V.1.trans m
    | 4,_=>exact V.2.1.trans m
    | 5,_=>exact V.2.2.1.trans m
    | 6,_=>exact V.2.2.2.trans m
   ·simp only[if_neg e]at m;exact(U _ (by omega)).trans (u (T i l t n m))
  ·by_cases e:i=h
   ·simp only[e,cH];have:=aw F (aY.mono λr P=>⟨by omega,by omega⟩);refine⟨⟨?_,a0⟩,this.1,this.2⟩;unfold Ms;rw[aZ]
   ·simp only[if_neg e];obtain⟨aa,ad,aj⟩:=S i (by omega);have:=aw ((ad.below y).mono y.size) aj;exact⟨aa,this.1,this.2⟩
  ·simp only[if_neg (show¬i=h by omega)];exact M i (by omega) aI
 ·rintro e w' ⟨a,c,rfl,I⟩;obtain⟨A,N,L⟩:=I.out;refine⟨a,c,rfl,A,N,?_⟩;rcases L with K|⟨g,f,rfl,x,ay,T,S,M⟩
  ·have aP:d.es=[]:=bD K;refine⟨[],by rw[K];rfl,?_,ae rfl,λe M=>by cases M⟩;rw[<-B.evt.1,aP];rfl
  ·refine⟨(List.range d.es.length).map f,by simp,?_,af ⟨g,rfl,x.1,x.2,λi e l t n m=>?_⟩,λe l=>?_⟩
   ·rw[<-B.evt.1];refine List.ext_getElem? λi=>?_;by_cases l:i<d.es.length
    ·rw[dj,dj,dj,List.getElem?_range l,R i l];exact congrArg some (S i l).1.1
    ·rw[ed (by simpa using Nat.le_of_not_lt l),ed (by simpa using Nat.le_of_not_lt l)]
   ·have W:i<d.es.length:=by
      have:=(aL.1 l).1;simpa using this
    rw[dj,List.getElem?_range W]at l;obtain rfl:=aq l;exact T i W t n m
   ·obtain⟨i,W,rfl⟩:=bZ.1 l;obtain⟨aa,ad,aj⟩:=S i (List.mem_range.1 W);exact⟨⟨ad,aj.mono λr P=>P.1⟩,aa.2⟩
theorem aX.events(h:aX p s d w)(i:d.es.length<=100000):ah 10 #[.pointer (some ⟨p.b,0,none⟩)] w λe w'=>∃a c,e=.returned (.slice a d.es.length c)/\Hid (ag w w'/\DA a d.es.length c/\∃f,f.length=d.es.length/\f.map Ms=s.evs/\LA w.heap.size a f w'):=by
 have g:=aj (h.eventsF i);clear h i;generalize d.es.length=k at*;go_enter Tryz.func10,Tryz.ntmps10;go_wp2_with fail;refine g.out.mono ?_;rintro e l ⟨a,c,rfl,j⟩;clear g;go_wp2_with fail
 go_ret
 exact⟨a,c,rfl,j.out⟩
end
theorem A9(b:Nat)(name:ByteArray)(w:World)(d:w.cell? ⟨b,0,none⟩=some (.string name))(c:Hid (∀w1:World,ah 41 #[.string name] w1 λe w'=>e=.returned (.string name)/\ag w1 w')):ah 23 #[.pointer (some ⟨b,0,none⟩)] w λe w'=>e=.returned (.string name)/\ag w w':=by
 go_enter Tryz.func23,Tryz.ntmps23;go_wp2_with fail;refine(c.out _).mono ?_;rintro e w1 ⟨rfl,a⟩;have HB:=aj a;clear a;go_wp2_with fail
 go_ret
 exact⟨rfl,HB.out⟩
theorem P1.sname{b a:Nat}{name:ByteArray}{room:Int}{cs:Tc}{c:List Tc}{k:Nat}{M:Nat->Prop}{w:World}(d:P1 b a name room cs c k M w)(h:name.size<=2048):ah 23 #[.pointer (some ⟨a,0,none⟩)] w λe w'=>e=.returned (.string name)/\ag w w':=by
 obtain⟨l,s,p,x,r,t,v,n,o,j,f,_⟩:=d;obtain⟨u,m,q,g,_⟩:=f.heap.box;exact A9 a name w (PL.cells g).1 λi=>dD name i h
theorem P1.mails2{v u:Nat}{name:ByteArray}{room:Int}{cs:Tc}{g:List Tc}{k:Nat}{M:Nat->Prop}{w:World}(C:P1 v u name room cs g k M w)(I:k<=50000)(D:g.length<=999):ah 25 #[.pointer (some ⟨u,0,none⟩)] w λe w'=>∃(ys:List Tc)(a:Option Addr)(c:Nat),e=.returned (.slice a g.length c)/\Hid (ys.length=g.length/\ag w w'/\fe w'.heap.size w' 13 ys a/\ys.map (cn 13)=g/\(∀b,(Value.slice a g.length c).ownBlock=some b->w.heap.size<=b)/\∀y∈ys,bm 13 y=0/\bV (λq=>w.heap.size<=q) 13 y):=by
 obtain⟨Q,Y,l,ab,X,Z,aa,V,W,O,s,⟨rfl,rfl⟩,T,U⟩:=C;have G:∀y∈l,bm 13 y=0:=λy d=>((s.front (N:=12)).2.2.1 y (bI _ d)).1;have S:l.length<=999:=by simpa using D
 refine(s.mails (N:=12) I (by omega)).mono ?_;rintro e w' ⟨ys,z,a,c,rfl,x⟩;obtain⟨t,j,p⟩:=x.out;have E:z=(l.map (cn 13)).length:=by
  rw[<-t,fA];exact cu _ _ _ p
 subst E;obtain⟨P,R,m,_,n,_⟩:=eL.lay (dL 13) (f:=gR 13) (λ_=>rfl) j;injection m with m _ _;subst m;refine⟨ys,a,c,rfl,t,j.1,?_,N3 ys l p,λb F=>(j.2.1.lt b F).1,λy d=>⟨?_,(j.2.2 y d).2.mono λq J=>by rcases J.1 with r|r<;>omega⟩⟩
 ·rcases n with n|⟨B,o,A,H,h⟩
  ·exact ae n
  ·exact af ⟨B,o,A,H,λi y d=>⟨⟨(h i y d).1 0 _ rfl,(h i y d).1 1 _ rfl,(h i y d).1 2 _ rfl,(h i y d).1 3 _ rfl⟩,(h i y d).2⟩⟩
 ·obtain⟨r,L,K⟩:=rK _ _ _ p y d;exact(bH K).trans (G r L)
section
variable {p:lh} {s:Sy} {d:gf} {w:World}
end
theorem Bb(g:Nat)(u:Option Nat)(a:Int)(nm:ByteArray)(l:Value)(L:Nat)(w:World)(K:Int->Int->ByteArray->Option Addr->Nat->Nat->World->Prop)(J:Int->Int->ByteArray->Option Addr->Nat->Nat->Option Addr->Nat->World->Prop)(S:g<w.heap.size)(A:Hid (w.cell? ⟨g,3,none⟩=some (.map u)))(B:Hid (∀W,ag w W->(Instr.lookup 62 (.map u) (.int .i64 a) true).run Tryz.prog W=.ok (.tuple #[l,.bool true]) W))(E:Hid (∀W,ag w W->ah 23 #[l] W λe w'=>e=.returned (.string nm)/\ag W w'))(F:Hid (∀W,ag w W->w.heap.size<W.heap.size->ah 24 #[l] W λe w'=>∃y0 y1 y2 ya yl yc,e=.returned (.agg #[.int .i64 y0,.int .i64 y1,.string y2,.slice ya yl yc])/\Hid (ag W w'/\K y0 y1 y2 ya yl yc w')))(C:Hid (∀y0 y1 y2 ya yl yc W,ag w W->w.heap.size<W.heap.size->K y0 y1 y2 ya yl yc W->ah 25 #[l] W λe w'=>∃ma d,e=.returned (.slice ma L d)/\Hid (ag W w'/\∀I,bi (λq=>q=w.heap.size) w' I->J y0 y1 y2 ya yl yc ma d I))):ah 7 #[.pointer (some ⟨g,0,none⟩),.int .i64 a] w λe w'=>∃y0 y1 y2 ya yl yc ma d,e=.returned (.tuple #[.string nm,.agg #[.int .i64 y0,.int .i64 y1,.string y2,.slice ya yl yc],.slice ma L d,.int .i64 0])/\Hid (J y0 y1 y2 ya yl yc ma d w'/\ag w w'):=by
 go_enter Tryz.func7,Tryz.ntmps7;go_upto_region 1 with fail;generalize t:w.alloc _=x;have HB:Hid (ag w x):=by
  rw[<-t];exact(ak _ _).alloc (ai _) _
 have G:Hid (x.heap[w.heap.size]?=some (.cells #[.int .i64 0,.int .i64 0,.string ⟨#[]⟩,.slice none 0 0] 30)):=by
  rw[<-t];exact ax _ _
 clear t;have R:=B.out _ HB.out;have Q:x.cell? ⟨g,3,none⟩=some (.map u):=(HB.out.cell (p:=⟨g,3,none⟩) S).trans A.out;clear B A;go_wp2_with fail;refine(E.out _ HB.out).mono ?_;rintro e Y ⟨rfl,r⟩;have j:=aj (HB.out.trans (r.mono HB.out.size));have m:=aj (fj r G.out);clear r E R Q HB G;go_wp2_with fail;refine(F.out _ j.out (aA.1 m.out).1).mono ?_;rintro e Z ⟨y0,y1,y2,ya,yl,yc,rfl,h⟩;have k:=aj (j.out.trans (h.out.1.mono j.out.size));have n:=aj (fj h.out.1 m.out);have D:=aj (C.out _ _ _ _ _ _ _ k.out (aA.1 n.out).1 h.out.2);clear C h F j m;go_wp2_with fail;refine D.out.mono ?_;rintro e b ⟨ma,d,rfl,i⟩;have y:=aj (k.out.trans (i.out.1.mono k.out.size));have c:=fj i.out.1 n.out;have H:=aj (i.out.2 _ (nt b w.heap.size 0 (.int .i64 y0) (.int .i64 y1) (.string y2) (.slice ya yl yc)));have z:Hid (ag w (cE b w.heap.size 0 (.int .i64 y0) (.int .i64 y1) (.string y2) (.slice ya yl yc))):=(dm (o:=0) (v0:=.int .i64 y0) (v1:=.int .i64 y1) (v2:=.string y2) (v3:=.slice ya yl yc) y.out (ai _));have f:=aj (rD c (.int .i64 y0) (.int .i64 y1) (.string y2) (.slice ya yl yc));obtain⟨q,s⟩:∃q,q=w.heap.size:=⟨_,rfl⟩;rw[<-s]at c f z H ⊢;have P:=aj s;clear s;have aa:b.cell? ⟨q,0,none⟩=some (.int .i64 0):=ab c 0;have ad:b.cell? ⟨q,1,none⟩=some (.int .i64 0):=ab c 1;have ae:b.cell? ⟨q,2,none⟩=some (.string ⟨#[]⟩):=ab c 2;have af:b.cell? ⟨q,3,none⟩=some (.slice none 0 0):=ab c 3;have T:b.frozen? ⟨q,0,none⟩=false:=by simp[World.frozen?,c]
 have U:b.frozen? ⟨q,1,none⟩=false:=by simp[World.frozen?,c]
 have V:b.frozen? ⟨q,2,none⟩=false:=by simp[World.frozen?,c]
 have X:b.frozen? ⟨q,3,none⟩=false:=by simp[World.frozen?,c]
 clear c i D n k y;go_wp2_with fail;have M:(cE b q 0 (.int .i64 y0) (.int .i64 y1) (.string y2) (.slice ya yl yc)).cell? ⟨q,0,none⟩=some (.int .i64 y0):=ab f.out 0;have d1:(cE b q 0 (.int .i64 y0) (.int .i64 y1) (.string y2) (.slice ya yl yc)).cell? ⟨q,1,none⟩=some (.int .i64 y1):=ab f.out 1;have N:(cE b q 0 (.int .i64 y0) (.int .i64 y1) (.string y2) (.slice ya yl yc)).cell? ⟨q,2,none⟩=some (.string y2):=ab f.out 2;have O:(cE b q 0 (.int .i64 y0) (.int .i64 y1) (.string y2) (.slice ya yl yc)).cell? ⟨q,3,none⟩=some (.slice ya yl yc):=ab f.out 3;simp only[cE,cN]at M d1 N O;exact ap (v:=.tuple #[.string nm,.agg #[.int .i64 y0,.int .i64 y1,.string y2,.slice ya yl yc],.slice ma L d,.int .i64 0]) (by simp[results,Tryz.results7,go_sem,M,d1,N,O]) rfl ⟨y0,y1,y2,ya,yl,yc,ma,d,rfl,H.out,P.out▸z.out⟩
def nd(t:Tc)(B:Nat)(y0 y1:Int)(y2:ByteArray)(ya:Option Addr)(yl yc:Nat)(W:World):Prop:=∃(m:Nat)(x:Tm (m+1)),(x.1=(y0,y1,y2)/\x.2.1=(ya,yc)/\x.2.2.length=yl)/\au (m+1) x 13 t=true/\In W.heap.size W (m+1) x/\bV (λq=>B<=q/\q<W.heap.size) (m+1) x
theorem nd.kee{t:Tc}{B:Nat}{y0 y1:Int}{y2:ByteArray}{ya:Option Addr}{yl yc:Nat}{W b:World}(d:nd t B y0 y1 y2 ya yl yc W){S:Nat->Prop}(c:bi S W b)(i:∀q,B<=q->q<W.heap.size->¬S q):nd t B y0 y1 y2 ya yl yc b:=by
 obtain⟨j,k,e,f,g,h⟩:=d;have:=eJ c (D:=λq=>B<=q/\q<W.heap.size) (λq a=>i q a.1 a.2) ⟨g,h⟩;exact⟨j,k,e,f,this.1,this.2.mono λq a=>⟨a.1,aJ a.2 c.size⟩⟩
def vC(a:List Tc)(B:Nat)(ma:Option Addr)(W:World):Prop:=∃ys:List Tc,ys.length=a.length/\fe W.heap.size W 13 ys ma/\ys.map (cn 13)=a/\(∀y∈ys,bm 13 y=0/\bV (λq=>B<=q) 13 y)/\∀g o,ma=some ⟨g,o,none⟩->B<=g
theorem vC.kee{f:List Tc}{B:Nat}{ma:Option Addr}{W b:World}(v:vC f B ma W){S:Nat->Prop}(e:bi S W b)(k:∀q,B<=q->q<W.heap.size->¬S q):vC f B ma b:=by
 obtain⟨F,A,C,E,n,m⟩:=v;refine⟨F,A,?_,E,n,m⟩;rcases C with s|⟨a,o,t,c,u⟩
 ·exact ae s
 ·subst t;have x:=m a o rfl;refine af ⟨a,o,rfl,aJ c e.size,λz p l=>?_⟩;have w:b.heap[a]?=W.heap[a]? :=e.block a c (k a x c);have d:=u z p l;have y:=eJ e (D:=λq=>B<=q/\q<W.heap.size) (λq r=>k q r.1 r.2) ⟨d.2,In.offB (n p (aC l)).2 d.2⟩;refine⟨?_,y.1⟩;obtain⟨g,h,i,j⟩:=d.1;simp only[World.cell?,<-w]at g h i j;exact⟨g,h,i,j⟩
section
variable {p:lh} {s:Sy} {d:gf} {w:World}
theorem aX.procS(j:aX p s d w){a:Int}{nm:ByteArray}{cs:Tc}{f:List Tc}(F:s.get a=some (nm,cs,f))(R:nm.size<=2048)(aj:d.k<=47000):ah 7 #[.pointer (some ⟨p.b,0,none⟩),.int .i64 a] w λe w'=>∃y0 y1 y2 ya yl yc ma m,e=.returned (.tuple #[.string nm,.agg #[.int .i64 y0,.int .i64 y1,.string y2,.slice ya yl yc],.slice ma f.length m,.int .i64 0])/\Hid ((nd cs w.heap.size y0 y1 y2 ya yl yc w'/\vC f w.heap.size ma w')/\ag w w'):=by
 obtain⟨n,G⟩:∃n,cJ d.l a=some n:=by
  have:=j.alive a;rw[F]at this;exact fY.1 this
 obtain⟨Y,J,I,C,v,ai⟩:=j.ps a n G;rw[F]at C;obtain⟨rfl,rfl,rfl⟩:nm=Y/\cs=J/\f=I:=by simpa using C
 refine Bb p.b d.po a nm (yR n) f.length w (λy0 y1 y2 ya yl yc h=>nd cs (w.heap.size+1) y0 y1 y2 ya yl yc h) (λy0 y1 y2 ya yl yc ma m w'=>nd cs w.heap.size y0 y1 y2 ya yl yc w'/\vC f w.heap.size ma w') j.lo.2 j.cells.2.2.2 (λh g=>?_) (λh g=>(v.later g).sname R) (λh g Q=>?_) λy0 y1 y2 ya yl yc h g Q P=>?_
 ·have:=(j.later g).look a true;rw[if_pos rfl,G]at this;exact this
 ·refine((v.later g).state (by omega)).mono ?_;rintro e w' ⟨c,rfl,t⟩;obtain⟨K,D,L,M,N⟩:=t.out;refine⟨c.1.1,c.1.2.1,c.1.2.2,c.2.1.1,c.2.2.length,c.2.1.2,rfl,K,12,c,⟨rfl,rfl,rfl⟩,?_,D,(In.offB L D).mono λq i=>⟨by omega,i.2⟩⟩;rw[<-N];exact dF _ _ _ _ (eX M)
 ·refine((v.later g).mails2 (by omega) (by omega)).mono ?_;rintro e w' ⟨B,ma,m,rfl,t⟩;obtain⟨T,x,U,V,W,X⟩:=t.out;have ak:=x.size;refine⟨ma,m,rfl,x,λaf E=>⟨?_,?_⟩⟩
  ·obtain⟨S,aa,y,z,A,r⟩:=(P.kee (aE x λ_=>False) λ_ _ _ i=>i).kee E λq ab ad ae=>by omega
   exact⟨S,aa,y,z,A,r.mono λq i=>⟨by omega,i.2⟩⟩
  ·have O:vC f h.heap.size ma w':=⟨B,T,U,V,X,λu o e=>W u (by rw[e];rfl)⟩;obtain⟨B,y,z,A,r,Z⟩:=O.kee E λq ab ad ae=>by omega
   exact⟨B,y,z,A,λc H=>⟨(r c H).1,(r c H).2.mono λq i=>by omega⟩,λu o e=>by have:=Z u o e;omega⟩
end
end Go.Proofs.YtckamaoibonjcaaGreat
