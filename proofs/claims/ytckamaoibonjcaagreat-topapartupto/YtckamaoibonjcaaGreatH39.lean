/- What is proved here: plain facts and contracts that the claimed theorem stands on. No condition but those that each names. -/
import Derived.Test.YtckamaoibonjcaaGreatH38
namespace Go.Proofs.YtckamaoibonjcaaGreat
open Go.RowKit
open Go.RowKit Go.Maps
set_option maxRecDepth 100000
set_option maxHeartbeats 2000000
def EH(f:Tk)(t:T8)(d:fS)(W:World):Prop:=
 ∃(h g:Nat)(c:List (Int×Tm (h+1)))(e:List (Int×ByteArray×Tm (h+1))),(c.length=t.sl/\e.length=t.pl/\f.links.length=t.kl)/\W.ownsRow g 162 5 (.slice t.sa t.sl t.sc) t.sl (c.flatMap λa=>Ma a.1 a.2)/\W.ownsRow g 159 6 (.slice t.pa t.pl t.pc) t.pl (e.flatMap λa=>M9 a.1 a.2.1 a.2.2)/\W.ownsRow g 3 1 (.slice t.ka t.kl t.kc) t.kl (f.links.map λi=>ab i)/\
  c.map (λa=>(a.1,cn _ a.2))=f.sends/\e.map (λa=>(a.1,a.2.1,cn _ a.2.2))=f.spawns/\(∀a∈c,bq _ a.2=0/\ED d W a.2)/\(∀a∈e,bq _ a.2.2=0/\ED d W a.2.2)/\∀b,((Value.slice t.sa t.sl t.sc).ownBlock=some b\/(Value.slice t.pa t.pl t.pc).ownBlock=some b\/(Value.slice t.ka t.kl t.kc).ownBlock=some b)->b<W.heap.size/\0<=d.ow b
theorem EH.kee{n:Tk}{t:T8}{d h:fS}{W g:World}(s:EH n t d W)(b:bk (λq=>d.ow q<0) W g)(m:∀q,q<W.heap.size->h.ow q=d.ow q):EH n t h g:=by
 obtain⟨p,r,A,B,e,u,v,w,x,y,k,l,f⟩:=s;have hF:∀{z:Nat}{o:Tm z},ED d W o->ED h g o:=λj=>by
  have e:=eS b (D:=λq=>0<=d.ow q/\q<W.heap.size) (λq a C=>by omega) ⟨j.1,In.offB j.2 j.1⟩;exact⟨e.1,e.2.mono λq a=>by rw[m q a.2];exact a.1⟩
 have i:∀q,((Value.slice t.sa t.sl t.sc).ownBlock=some q\/(Value.slice t.pa t.pl t.pc).ownBlock=some q\/(Value.slice t.ka t.kl t.kc).ownBlock=some q)->¬d.ow q<0:=λq a=>by have:=(f q a).2;omega
 exact⟨p,r,A,B,e,aY u b λq a=>i q (ag a),aY v b λq a=>i q (ah (ag a)),aY w b λq a=>i q (ah (ah a)),x,y,λa c=>⟨(k a c).1,hF (k a c).2⟩,λa c=>⟨(l a c).1,hF (l a c).2⟩,λq a=>⟨aL (f q a).1 b.size,by rw[m q (f q a).1];exact(f q a).2⟩⟩
def ON(t:T8):Obj:=.cells #[ab t.y0,ab t.y1,ae t.y2,.slice t.ya t.yl t.yc,ab t.f,.slice t.sa t.sl t.sc,.slice t.pa t.pl t.pc,.slice t.ka t.kl t.kc] 112
section
variable {p:kJ} {s:Sy} {d:fS} {w:World}
theorem fK.ug{M:Nat->Prop}{k b c:Nat}{d1 e:fS}{w1 w2:World}(m:fK k c d d1 w w1)(g:pt M b d1 e w1 w2)(n:∀q,M q->w.heap.size<=q):fK (k+b) c d e w w2:=by
 obtain⟨f,h,u,v,x,y⟩:=m;obtain⟨j,l,_,p,r,s,t⟩:=g;have z:=f.size;exact⟨f.trans j λq a i=>by rw[h q a]at i;omega,λq a=>(l q (by omega) λo=>by have:=n q o;omega).trans (h q a),by omega,by omega,by omega,by omega⟩
def NG(p:kJ)(s:Sy)(d:fS)(w:World)(a:Tk)(q:Nat)(t:T8)(d1:fS)(W:World):Prop:=
 aX p s d1 W/\fK 1 402 d d1 w W/\(w.heap.size<=q/\q<W.heap.size/\d1.ow q=0/\W.heap[q]?=some (ON t))/\t.f=a.fate/\EH a t d1 W
theorem aX.run(q:aX p s d w){a:Int}(aS:dk a)(ct:d.k<=46000)(cq:d.es.length<=96000)(cA:d.wn<=800000)(cs:d.bn<=800000):ak 26 #[.pointer (some ⟨p.b,0,none⟩),ab a] w λe w'=>∃v,e=.returned (ab v)/\Hid (v=(s.run p.n p.prog p.room a).2/\∃E,aX p (s.run p.n p.prog p.room a).1 E w'/\fK 201 402 d E w w'):=by
 obtain⟨bR,aW⟩:=q.lo;obtain⟨a8,cl,a9,ba⟩:=q.cells;obtain⟨_,_,_,co,cp,_⟩:=q.keys;have bi:jP (p.n+1) p.prog=true:=(fE q.pg.2.2.2.1).1;have bg:IntKind.i64.wrap (s.last+1)=s.last+1:=by rw[IntKind.wrap];simp[IntKind.bits,IntKind.signed];omega
 have ae:=q.look a true;have aA:=q.alive a;rw[if_pos rfl]at ae;obtain⟨P,m⟩:∃P,P=s.run p.n p.prog p.room a:=⟨_,rfl⟩;rw[<-m];unfold Sy.run at m;cases hg:s.get a with
 | none=>
  rw[hg]at m aA;rw[aA]at ae;have bC:(4:Int)=P.2/\∃E,aX p P.1 E w/\fK 201 402 d E w w:=by
   rw[m];exact⟨rfl,d,q,(dH.later d (am _ _)).un.mono (aF _) (aF _)⟩
  exact wX p.b d.po a s.last (s.last+1) p.pa p.prog.length p.pc _ false w (λ_ _ _ _=>False) (λ_ _ _=>False) (λ_ _ _ _ _=>False) (λv w'=>v=P.2/\∃E,aX p P.1 E w'/\fK 201 402 d E w w') bg aW ⟨a8,a9,ba⟩ ae (λ_=>bC) ((λg=>by cases g)) (λ_ _ _ _ ⟨_,_,_,g,_⟩=>g.elim) (λ_ _ _ ⟨_,_,_,g,_⟩=>g.elim) (λ_ _ _ g=>g.elim) (λ_ _ _ g=>g.elim) (λ_ _ _ _ _ g=>g.elim) (λ_ _ _ _ _ g=>g.elim) (λ_ _ _ _ g=>g.elim) λ_ _ _ _ g=>g.elim
 | some ar=>
  obtain⟨B,ad,W⟩:=ar;rw[hg]at m aA;obtain⟨bw,aG⟩:=fJ.1 aA;rw[aG]at ae;obtain⟨ca,bH,bG,av,bK,cm⟩:=q.ps a bw aG;rw[hg]at av;obtain⟨rfl,rfl,rfl⟩:B=ca/\ad=bH/\W=bG:=by
   injection av with av;injection av with z u;injection u with u bI;exact⟨z,u,bI⟩
  have cr:=(q.key aG).1;obtain⟨U,aR⟩:∃U,U=qQ p.n p.room p.prog B a (s.last+1) ad W:=⟨_,rfl⟩;simp only[<-aR]at m;have aE:∀h,w.heap.size<=h->d.ow h=0:=λh aU=>by
   by_cases g:d.ow h=0
   ·exact g
   ·have:=(q.low h g).2;omega
  refine wX p.b d.po a s.last (s.last+1) p.pa p.prog.length p.pc _ true w
   (λt aa l w'=>(aa≠0/\aa=U/\ai l w')\/(aa=0/\U=0/\∃(r:Tc)(i:Tk)(J:Nat),(r.1=(t.y0,t.y1,t.y2)/\r.2.1=(t.ya,t.yc)/\r.2.2.length=t.yl)/\mP p.room p.prog B a (s.last+1) ad W=some i/\t.f=i.fate/\cn 13 r=i.message/\bq 13 r=0/\In w'.heap.size w' 13 r/\bZ (λh=>l.heap.size<=h/\h<J) 13 r/\bO (λh=>d.ow h=a) l w'/\l.heap.size<J/\P1 p.lo bw B p.room i.state i.mail (d.k+201+402) (λb=>(d.ow b=a\/J<=b)/\b<w'.heap.size) w'/\i.mail.length<=W.length/\lj (l.heap.size+1) i.sends i.spawns i.links t.sa t.sl t.sc t.pa t.pl t.pc t.ka t.kl t.kc (λ_=>True) w'))
   (λh t l=>∃i d1,U=0/\mP p.room p.prog B a (s.last+1) ad W=some i/\NG p ((s.put a (B,i.state,i.mail)).tell mE a 0 i.message) d w i h t d1 l)
   (λh t v b l=>∃i d1,U=0/\mP p.room p.prog B a (s.last+1) ad W=some i/\NG p ((s.put a (B,i.state,i.mail)).tell mE a 0 i.message) d w i h t d1 l/\b=Sy.made p.n p.prog p.room ((s.put a (B,i.state,i.mail)).tell mE a 0 i.message) i.spawns/\(b=true->∃V aO aP c,v=.slice aO t.pl aP/\V.length=t.pl/\w.heap.size<=c/\(∀h,c<=h->d1.ow h=0)/\l.ownsRow c 60 1 v t.pl (V.map yZ)/\lu p.lo p.room (d1.k+201) (λh=>v.ownBlock=some h) l.heap.size l i.spawns V c))
   (λv w'=>v=P.2/\∃E,aX p P.1 E w'/\fK 201 402 d E w w') bg aW ⟨a8,a9,ba⟩ (by rw[ae];rfl) ((λg=>by cases g)) (λ_ l az=>?_) (λh t aa l aQ br=>?_) (λh t l aQ=>?_) (λh t l F=>?_) (λh t l F=>?_) (λh t v b l F=>?_) (λh t v b l F N=>?_) (λh t v l F N=>?_) λh t v l F N=>?_
  ·have X:=q.later az;have J:=cu (dJ (p.n+1)) 2 (oR (p.n+1)) p.pa;refine((bK.later az).step p.prog p.pa p.pc l.heap.size X.pg.1.1 (aj _) q.pg.2.1 q.pg.2.2.1 (λ_=>q.pg.2.2.2.2) (λbD ay=>J.2.2.1 _ _ _ bD _ (λb h=>ay.block b h.2 λg=>by have:=h.1;rw[g]at this;omega) (J.2.1 _ _ _ _ X.pg.1.2 X.pg.1.1) X.pg.1.1) (ax bR az.size) (by omega) (by omega) a (s.last+1)).mono ?_;rintro e w' (⟨aa,rfl,y⟩|⟨r,f,sa,sl,sc,pa,pl,pc,ka,kl,kc,rfl,y⟩)
   ·obtain⟨K,S,G⟩:=y.out;have be:=(X.later G).cells;exact⟨⟨0,0,⟨#[]⟩,none,0,0,0,none,0,0,none,0,0,none,0,0⟩,aa,rfl,ag ⟨K,S.trans aR.symm,G⟩,λh _ aU=>G.block h aU,G.size,be.1,be.2.2.1⟩
   ·obtain⟨i,J,K,S,G,an,L,bY,b0,aJ,b1,bX⟩:=y.out;have bd:w'.heap[p.b]?=some (.cells (dL p s d) 70):=(aJ.block p.b (aL aW az.size) (by rw[q.own];omega)).trans X.box;exact⟨⟨r.1.1,r.1.2.1,r.1.2.2,r.2.1.1,r.2.2.length,r.2.1.2,f,sa,sl,sc,pa,pl,pc,ka,kl,kc⟩,0,rfl,ah ⟨rfl,aR.trans K,r,i,J,⟨rfl,rfl,rfl⟩,S,G,an,L,bY,b0,aJ,b1,bX⟩,λh aw bL=>aJ.block h bL (by rw[aE h aw];omega),aJ.size,af bd 0,af bd 2⟩
  ·obtain⟨Q,aq,K,S,G,an,L⟩:=aQ;rcases S with⟨_,e,b2⟩|⟨e,_⟩
   ·rw[if_neg (by rw[<-e];exact br)]at m;have ay:bk (λb=>b=h) w l:=((aD K λb=>b=h).trans (aD b2 λb=>b=h) λ_ _ e=>e).trans L λ_ _ e=>e;rw[m];exact⟨e,d,q.kept ay λb g=>by rw[g];exact aE h G.1,ay.mono λb aB g=>by omega,λ_ _=>rfl,by omega,by omega,by omega,by omega⟩
   ·exact absurd e br
  ·obtain⟨Q,aq,K,S,G,an,L⟩:=aQ;rcases S with⟨e,_⟩|⟨_,bM,r,i,J,⟨bb,bc,bJ⟩,b3,b5,b6,b7,bs,b8,Z,cC,bt,cB,b4⟩
   ·exact absurd rfl e
   have bQ:bk (λh=>d.ow h=a) Q aq:=⟨Z.os,Z.tape,Z.output,Z.size,Z.block⟩;have cw:=K.size;have cx:=Z.size;have cy:=L.size
   obtain⟨bx,bz⟩:=(q.later K).turnP aG hg bQ (j:=d.k+402) (λh g=>by
    rcases g.1 with g|g
    ·exact ag g
    ·exact ah (by omega)) (by omega) (bt.mono (λ_ g=>g) (by omega) (P1.lie2 bt)) (by omega)
   generalize aT:({d with ow:=En d Q aq a,k:=d.k+402}:fS)=d1 at bx bz;have bh:∀b,d1.ow b=if Q.heap.size<=b/\b<aq.heap.size then a else d.ow b:=λb=>by rw[<-aT];rfl
   have aV:d1.ow h=0:=by
    rw[bh,if_neg (by omega)];exact aE h G.1
   have bj:∀b,Q.heap.size<=b->0<=d1.ow b:=λb aB=>by
    rw[bh];split
    ·omega
    ·rw[aE b (by omega)];exact iJ 0
   have aw:aX p (s.put a (B,i.state,i.mail)) d1 l:=bx.kept L λb g=>by rw[g];exact aV
   have bV:fK 0 402 d d1 w l:=by
    have z:=((dH.later d K).un.trans bz);obtain⟨cd,ce,cf,cg,ch,ci⟩:=z;exact⟨cd.trans L λb aB g=>by omega,ce,by rw[<-aT]at cf ⊢;show d.k+402<=_;omega,cg,ch,ci⟩
   have bW:=eS L (D:=λb=>Q.heap.size<=b/\b<aq.heap.size) (λb g ck=>by omega) ⟨bs,In.offB (b8.mono λb g=>g.1) bs⟩;have bN:EH i t d1 l:=by
    obtain⟨au,aM,aN,A,o,x,H,T,O,ao,a5,b9⟩:=b4.kept L λb cj _ cE cF=>by omega
    have bf:∀{a4:Nat}{ar:Tm a4},In l.heap.size l a4 ar->bZ (λb=>Q.heap.size+1<=b/\True) a4 ar->ED d1 l ar:=λbE bF=>⟨bE,bF.mono λb g=>bj b (by omega)⟩;refine⟨au,_,aM,aN,A,o,x,H,T,O,λg I=>⟨(ao g I).1,bf (ao g I).2.1 (ao g I).2.2⟩,λg I=>⟨(a5 g I).1,bf (a5 g I).2.1 (a5 g I).2.2⟩,λb g=>⟨?_,bj b (by have:=(b9 b g).1;omega)⟩⟩;rcases g with g|g|g
    ·exact(o.lt b g).2
    ·exact(x.lt b g).2
    ·exact(H.lt b g).2
   obtain⟨⟨cD,cj,ck⟩,⟨cG,cH⟩,cI⟩:=r;simp only[ei]at bb bc;obtain⟨rfl,rfl,rfl⟩:=bb;obtain⟨rfl,rfl⟩:=bc;rw[<-bJ];have bP:d1.es=d.es:=by rw[<-aT]
   refine(aw.tell mE a 0 _ _ _ _ _ _ _ (jL bW.1 b7) (by rw[bP];omega)).mono ?_;rintro e w' ⟨rfl,y⟩;obtain⟨R,M,C⟩:=y.out.up aw;have bl:=(aC.1 an).1;have cz:=C.1.size;rw[b6]at M;refine⟨rfl,i,R,bM,b3,M,(bV.trans C.un).mono (by omega) (by omega),⟨G.1,by omega,by rw[C.2.1 h bl];exact aV,?_⟩,b5,bN.kee C.1 C.2.1⟩;rw[C.1.block h bl (by rw[aV];decide)];exact an
  ·obtain⟨i,d1,z,u,⟨A,o,x,H,T⟩⟩:=F;obtain⟨au,a7,aM,aN,Y,aZ,a0,a1,a2,al,a3,aH,aI⟩:=T;have aY:=JC bi u;have cv:t.pl<=8:=by
    have:=aY.1.2.1;rw[<-al,eh]at this;omega
   refine(A.made a0 Y.2.1 (by omega) λg I=>⟨(aH g I).1,(aH g I).2.1⟩).mono ?_;rintro e w' ⟨v,b,rfl,y⟩;obtain⟨ap,bu,bv⟩:=y.out;rw[al]at bu bv;have bT:∀h,l.heap.size<=h->d1.ow h=0:=λh aU=>by
    by_cases g:d1.ow h=0
    ·exact g
    ·have:=(A.low h g).2;omega
   refine⟨v,b,rfl,i,d1,z,u,⟨A.later ap,(o.trans (dH.later d1 ap).un).mono (aj _) (aj _),⟨x.1,aL x.2.1 ap.size,x.2.2.1,en ap x.2.2.2⟩,H,EH.kee ⟨au,a7,aM,aN,Y,aZ,a0,a1,a2,al,a3,aH,aI⟩ (aD ap _) λ_ _=>rfl⟩,bu,λaB=>?_⟩;obtain⟨V,aO,aP,cb,a6,bA,aK⟩:=bv aB;exact⟨V,aO,aP,l.heap.size,cb,a6,o.1.size,bT,bA,aK⟩
  ·obtain⟨i,d1,z,u,A,o,x,_⟩:=F;exact x.2.2.2
  ·obtain⟨i,d1,z,u,⟨A,o,x,_⟩,_⟩:=F;exact x.2.2.2
  ·obtain⟨i,d1,z,u,⟨A,o,x,H,T⟩,_⟩:=F;rw[if_pos z,u]at m;simp only at m;rw[H]at N ⊢;rw[if_pos N]at m;refine(A.fin aS (by have:=o.2.2.2.1;omega)).mono ?_;rintro e w' ⟨rfl,y⟩;obtain⟨R,M,C⟩:=y.out;rw[m];exact⟨rfl,rfl,R,M,(o.trans C.un).mono (by omega) (by omega)⟩
  ·obtain⟨i,d1,z,u,⟨A,o,x,H,T⟩,O,_⟩:=F;rw[if_pos z,u]at m;simp only at m;rw[H]at N;rw[if_neg N,if_pos O.symm]at m;have bm:=congrArg Prod.fst m;have bo:=congrArg Prod.snd m;dsimp only at bm bo;refine(A.fin (how:=2) aS (by have:=o.2.2.2.1;omega)).mono ?_;rintro e w' ⟨rfl,y⟩;obtain⟨R,M,C⟩:=y.out;rw[<-bm]at M;exact⟨rfl,bo.symm,R,M,(o.trans C.un).mono (by omega) (by omega)⟩
  ·obtain⟨i,d1,z,u,⟨A,o,x,H,T⟩,O,ao⟩:=F;rw[if_pos z,u]at m;simp only at m;rw[H]at N;have bU:¬Sy.made p.n p.prog p.room ((s.put a (B,i.state,i.mail)).tell mE a 0 i.message) i.spawns=false:=λg=>Bool.noConfusion (O.trans g);rw[if_neg N,if_neg bU]at m;obtain⟨V,aO,aP,c,rfl,a6,bA,aK,bB,cc⟩:=ao rfl;obtain⟨au,a7,aM,aN,Y,aZ,a0,a1,a2,al,a3,aH,aI⟩:=T;have aY:=JC bi u;have bp:i.spawns.length=t.pl:=by rw[<-al,eh];exact Y.2.1
   have bS:Sy.may ((s.put a (B,i.state,i.mail)).tell mE a 0 i.message) t.pl=true:=by
    unfold Sy.made at O;rw[bp]at O;exact(Bool.and_eq_true_iff.1 O.symm).1
   have hF:=A.follow (pa:=t.pa) (pl:=t.pl) (pc:=t.pc) aS i aY t.y0 t.y1 t.y2 t.ya t.yl t.yc aZ a1 bB ⟨Y.1,Y.2.2,a6,bp⟩ a2 a3 (λb g=>?_) cc (aj _) (λh g _=>aK h g) bS (by have:=o.2.2.1;omega) (by have:=o.2.2.2.1;omega) (by have:=o.2.2.2.2.1;omega) (by have:=o.2.2.2.2.2;omega)
   ·rw[<-H]at hF;refine hF.mono ?_;rintro e w' ⟨rfl,y⟩;obtain⟨R,M,C⟩:=y.out;rw[m];exact⟨rfl,rfl,R,M,o.ug C λh g=>by omega⟩
   ·rcases g with g|g|g
    ·exact(aI b (ag g)).2
    ·exact(aI b (ah (ah g))).2
    ·rw[aK b (bB.lt b g).1];exact iJ 0
end
theorem Ju(o:Nat)(kd a b p q:Int)(r:ByteArray)(xa:Option Addr)(s xc:Nat)(w:World)(R:Int->World->Prop)(l:Hid (kd=1->∀W,ai w W->ak 26 #[.pointer (some ⟨o,0,none⟩),ab a] W λe w'=>∃v,e=.returned (ab v)/\Hid (R v w')))(h:Hid (kd=2->∀W,ai w W->ak 27 #[.pointer (some ⟨o,0,none⟩),ab a,ab b] W λe w'=>∃v,e=.returned (ab v)/\Hid (R v w')))(k:Hid (kd=3->∀W,ai w W->ak 28 #[.pointer (some ⟨o,0,none⟩),ab a,.agg #[ab p,ab q,ae r,.slice xa s xc]] W λe w'=>∃v,e=.returned (ab v)/\Hid (R v w')))(j:Hid (¬(kd=1\/kd=2\/kd=3)->∀W,ai w W->R 1 W)):ak 8 #[.pointer (some ⟨o,0,none⟩),.agg #[ab kd,ab a,ab b,ab p,ab q,ae r,.slice xa s xc]] w λe w'=>∃v,e=.returned (ab v)/\Hid (R v w'):=by
 go_enter Tryz.func8,Tryz.ntmps8;go_upto_region 1 with fail;generalize u:w.alloc _=c;have HB:Hid (ai w c):=by
  rw[<-u];exact(am _ _).alloc (aj _) _
 have d:c.heap[w.heap.size]?=some (.cells #[ab kd,ab a,ab b,ab p,ab q,ae r,.slice xa s xc] 32):=by
  rw[<-u];exact az _ _
 generalize w.heap.size=f at*;clear u;have B:c.cell? ⟨f,0,none⟩=some (ab kd):=af d 0;have d1:c.cell? ⟨f,1,none⟩=some (ab a):=af d 1;have C:c.cell? ⟨f,2,none⟩=some (ab b):=af d 2;have D:c.cell? ⟨f,3,none⟩=some (ab p):=af d 3;have E:c.cell? ⟨f,4,none⟩=some (ab q):=af d 4;have F:c.cell? ⟨f,5,none⟩=some (ae r):=af d 5;have G:c.cell? ⟨f,6,none⟩=some (.slice xa s xc):=af d 6;clear d;by_cases m:kd=1
 ·have i:=ao (l.out m _ HB.out);subst m;clear l h k j;go_wp2_with fail;refine i.out.mono ?_;rintro e y ⟨v,rfl,g⟩;go_wp2_with fail
  go_ret
  exact⟨v,rfl,g.out⟩
 have x:(kd==1)=false:=by simpa using m
 by_cases n:kd=2
 ·have i:=ao (h.out n _ HB.out);subst n;clear l h k j m x;go_wp2_with fail;refine i.out.mono ?_;rintro e y ⟨v,rfl,g⟩;go_wp2_with fail
  go_ret
  exact⟨v,rfl,g.out⟩
 have A:(kd==2)=false:=by simpa using n
 by_cases t:kd=3
 ·have i:=ao (k.out t _ HB.out);subst t;clear l h k j m x n A;go_wp2_with fail;refine i.out.mono ?_;rintro e y ⟨v,rfl,g⟩;go_wp2_with fail
  go_ret
  exact⟨v,rfl,g.out⟩
 have H:(kd==3)=false:=by simpa using t
 have z:=ao (j.out (by omega) _ HB.out);clear l h k j;go_wp2_with fail
 go_ret
 exact⟨1,rfl,z.out⟩
section
variable {p:kJ} {s:Sy} {d:fS} {w:World}
theorem aX.do(o:aX p s d w){kd a b:Int}(u:I2 (a,b)){m:Nat}(x:Tm (m+1))(y:In w.heap.size w (m+1) x/\bZ (λq=>¬1<=d.ow q) (m+1) x)(A:(av (m+1) x).length<=2097152)(C:d.k<=46000)(z:d.es.length<=96000)(D:d.wn<=800000)(B:d.bn<=800000):ak 8 #[.pointer (some ⟨p.b,0,none⟩),.agg #[ab kd,ab a,ab b,ab x.1.1,ab x.1.2.1,ae x.1.2.2,.slice x.2.1.1 x.2.2.length x.2.1.2]] w λe w'=>∃v,e=.returned (ab v)/\Hid (v=(s.do p.n p.prog p.room kd a b (m+1) x).2/\∃f,aX p (s.do p.n p.prog p.room kd a b (m+1) x).1 f w'/\fK 201 402 d f w w'):=by
 obtain⟨r,g⟩:∃r,r=s.do p.n p.prog p.room kd a b (m+1) x:=⟨_,rfl⟩;rw[<-g];unfold Sy.do at g;refine Ju p.b kd a b x.1.1 x.1.2.1 x.1.2.2 x.2.1.1 x.2.2.length x.2.1.2 w (λv w'=>v=r.2/\∃f,aX p r.1 f w'/\fK 201 402 d f w w') (λe t c=>?_) (λe t c=>?_) (λe t c=>?_) λe t c=>?_
 ·rw[if_pos e]at g;refine((o.later c).run u.1 C z D B).mono ?_;rintro e w' ⟨v,rfl,h⟩;obtain⟨i,f,j,l⟩:=h.out;rw[g];exact⟨v,rfl,i,f,j,((dH.later d c).un.trans l).mono (by omega) (by omega)⟩
 ·rw[if_neg (by omega),if_pos e]at g;refine((o.later c).arrive u (by omega) (by omega) (by omega)).mono ?_;rintro e w' ⟨v,rfl,h⟩;obtain⟨i,f,j,l⟩:=h.out;rw[g];exact⟨v,rfl,i,f,j,((dH.later d c).un.trans l).mono (by omega) (by omega)⟩
 ·rw[if_neg (by omega),if_neg (by omega),if_pos e]at g;refine((o.later c).inject u.1 x ⟨(y.1.below c).mono c.size,y.2⟩ A (by omega) (by omega)).mono ?_;rintro e w' ⟨v,rfl,h⟩;obtain⟨i,f,j,l⟩:=h.out;rw[g];exact⟨v,rfl,i,f,j,((dH.later d c).un.trans l).mono (by omega) (by omega)⟩
 ·rw[if_neg (by omega),if_neg (by omega),if_neg (by omega)]at g;rw[g];exact⟨rfl,d,o.later c,(dH.later d c).un.mono (by omega) (by omega)⟩
end
theorem Gs(y:Option Addr)(A z:Nat)(room E:Int)(w:World)(n:Int->Int->ByteArray->Option Addr->Nat->Nat->World->Prop)(r:Option Addr->Nat->Nat->World->Prop)(R:Value->Int->World->Prop)(x:Hid (ak 34 #[.slice y A z] w λe w'=>∃y0 y1 y2 ya yl yc,e=.returned (.tuple #[.agg #[ab y0,ab y1,ae y2,.slice ya yl yc],ab E])/\Hid (n y0 y1 y2 ya yl yc w')))(j:Hid (E=0->(0<=room/\room<=1000)->∀y0 y1 y2 ya yl yc W b,n y0 y1 y2 ya yl yc W->ai W b->ak 35 #[.agg #[ab y0,ab y1,ae y2,.slice ya yl yc]] b λe w'=>∃a l c h,e=.returned (.tuple #[.slice a l c,ab h])/\Hid (r a l c w')))(g:Hid (∀y0 y1 y2 ya yl yc W b,n y0 y1 y2 ya yl yc W->ai W b->(E≠0->R (.pointer none) E b)/\(E=0->¬(0<=room/\room<=1000)->R (.pointer none) 1 b)))(k:Hid (∀a l c W,E=0->(0<=room/\room<=1000)->r a l c W->R (.pointer (some ⟨W.heap.size,0,none⟩)) 0 (W.alloc (.cells #[.slice a l c,ab room,ab 0,.map none,.map none,.map none,.slice none 0 0] 70)))):ak 17 #[.slice y A z,ab room] w λe w'=>∃v h,e=.returned (.tuple #[v,ab h])/\Hid (R v h w'):=by
 go_enter Tryz.func17,Tryz.ntmps17;go_wp2_with fail;refine x.out.mono ?_;rintro e i ⟨y0,y1,y2,ya,yl,yc,rfl,d⟩;clear x;have m:Hid (∀o,ai i (i.alloc o)):=λo=>(am _ _).alloc (aj _) o;by_cases p:E=0;rotate_left
 ·have f:Hid (∀o,R (.pointer none) E (i.alloc o)):=λo=>(g.out _ _ _ _ _ _ _ _ d.out (m.out o)).1 p;have F:(E==0)=false:=by simpa using p
  clear j g k d;go_wp2_with fail;exact ar (v:=.tuple #[.pointer none,ab E]) (by simp[results,Tryz.results17,go_sem]) rfl ⟨_,_,rfl,f.out _⟩
 subst p;by_cases q:0<=room/\room<=1000;rotate_left
 ·have f:Hid (∀o,R (.pointer none) 1 (i.alloc o)):=λo=>(g.out _ _ _ _ _ _ _ _ d.out (m.out o)).2 rfl q;clear j g k d;by_cases B:room<0
  ·go_wp2_with fail;exact ar (v:=.tuple #[.pointer none,ab 1]) (by simp[results,Tryz.results17,go_sem]) rfl ⟨_,_,rfl,f.out _⟩
  ·have C:1000<room:=by omega
   go_wp2_with fail;exact ar (v:=.tuple #[.pointer none,ab 1]) (by simp[results,Tryz.results17,go_sem]) rfl ⟨_,_,rfl,f.out _⟩
 have t:=ao (λb=>j.out rfl q y0 y1 y2 ya yl yc i b d.out);have u:=ao (λa l c W=>k.out a l c W rfl q);have B:¬room<0:=by omega
 have C:¬1000<room:=by omega
 clear j k g d;go_wp2_with fail;refine(t.out _ (m.out _)).mono ?_;rintro e D ⟨a,l,c,h,rfl,s⟩;have f:=ao (u.out _ _ _ _ s.out);clear t u s;go_wp2_with fail;exact ar (v:=.tuple #[.pointer (some ⟨D.heap.size,0,none⟩),ab 0]) (by simp[results,Tryz.results17,go_sem]) rfl ⟨_,_,rfl,f.out⟩
def Ki:Sy:=⟨0,[],λ_=> [],λ_=>false,[]⟩
def Bg(n:Nat)(l:List (Bh (n+1)))(room:Int):Int:=if nn n l≠0 then nn n l else if 0<=room/\room<=1000 then 0 else 1
def Mz(n:Nat)(l:List (Bh (n+1)))(room:Int)(w:World)(v:Value)(d:Int)(w':World):Prop:=
 d=Bg n l room/\ai w w'/\(d≠0->v=.pointer none)/\(d=0->∃(a:kJ)(c:fS),v=.pointer (some ⟨a.b,0,none⟩)/\aX a Ki c w'/\(c.k=0/\c.es=[]/\c.wn=0/\c.bn=0)/\a.room=room/\a.lo=w.heap.size/\a.n=n+5/\aw (a.n+6) (bW a.n a.prog) (n+6) (bW n l)=true)
theorem Bi(n:Nat)(l:List (Bh (n+1)))(y:Option Addr)(q:Nat)(room:Int)(w:World)(X:gM (n+1) w.heap.size w y l)(Y:l.length<=q)(Z:q<=maxLen)(H:jP (n+1) l=true->(av (n+6) (bW n l)).length<=2097152):ak 17 #[.slice y l.length q,ab room] w λe w'=>∃v O,e=.returned (.tuple #[v,ab O])/\Hid (Mz n l room w v O w'):=by
 refine Gs y l.length q room (nn n l) w (λy0 y1 y2 ya yl yc d=>ai w d/\∃f:Tm (n+6),(f.1=(y0,y1,y2)/\f.2.1=(ya,yc)/\f.2.2.length=yl)/\In d.heap.size d (n+6) f/\aw (n+6) f (n+6) (JN n l)=true)
  (λi h c d=>∃g:List (Bh (n+6)),g.length=h/\(∃A,ai w A/\ai A d)/\(h<=c/\c<=maxLen)/\gM (n+6) d.heap.size d i g/\sN (jt (n+6) λb=>w.heap.size<=b) (λb=>w.heap.size<=b) i g/\nn (n+5) g=0/\aw (n+11) (bW (n+5) g) (n+6) (bW n l)=true) (Mz n l room w) ?_ (λj u y0 y1 y2 ya yl yc d r p o=>?_) (λy0 y1 y2 ya yl yc d r p o=>⟨λj=>?_,λj u=>?_⟩) λi h c d j u hF=>?_
 ·refine(JO n l y q Y Z w.heap.size w X (aj _) H).mono ?_;rintro e w' ⟨f,rfl,z⟩;obtain⟨R,S,au,T⟩:=z.out;exact⟨f.1.1,f.1.2.1,f.1.2.2,f.2.1.1,f.2.2.length,f.2.1.2,rfl,R,f,⟨rfl,rfl,rfl⟩,S,T⟩
 ·obtain⟨m,f,⟨F,G,Q⟩,D,x⟩:=p;obtain⟨⟨aG,aH,aI⟩,⟨aJ,aK⟩,aL⟩:=f;simp only[ei]at F G;obtain⟨rfl,rfl,rfl⟩:=F;obtain⟨rfl,rfl⟩:=G;subst Q;obtain⟨ap,aq,ar⟩:=GD j x;refine(Ah (n+5) (n+6) (aj _) _ r.heap.size r ((D.below o).mono o.size) (eR ap) (aj _)).mono ?_;rintro e w' ⟨g,i,c,rfl,z⟩;obtain⟨af,ah,al,an,aA,ao⟩:=z.out;obtain⟨a,ad,ae⟩:=ao aq;obtain⟨aB,M,N,aD,aE⟩:=ar a g ad ae;have I:=m.trans (o.mono m.size);have ay:=I.size;have h:=cu (dJ (n+6)) 2 (oR (n+6)) i;rw[(fE M).2.2,(fE j).2.2]at N;exact⟨i,g.length,c,_,rfl,g,rfl,⟨r,I,af⟩,ah,al,h.1 _ _ _ (λb a=>by omega) an,M,N⟩
 ·have m:=p.1.trans (o.mono p.1.size);exact⟨by unfold Bg;rw[if_pos j],m,λ_=>rfl,λa=>absurd a j⟩
 ·have m:=p.1.trans (o.mono p.1.size);exact⟨by unfold Bg;rw[if_neg (by rw[j];decide),if_neg u],m,λ_=>rfl,(λa=>by cases a)⟩
 ·obtain⟨g,rfl,⟨A,E,P⟩,J,C,K,aa,x⟩:=hF;have m:=E.trans (P.mono E.size);have L:=m.size;have s:ai d (d.alloc (.cells #[.slice i g.length c,ab room,ab 0,.map none,.map none,.map none,.slice none 0 0] 70)):=(am _ _).alloc (aj _) _;generalize U:d.alloc (.cells #[.slice i g.length c,ab room,ab 0,.map none,.map none,.map none,.slice none 0 0] 70)=B at s;have t:B.heap[d.heap.size]?=some (.cells #[.slice i g.length c,ab room,ab 0,.map none,.map none,.map none,.slice none 0 0] 70):=by
   rw[<-U];exact az _ _
  have ax:=(aC.1 t).1;refine⟨by unfold Bg;rw[if_neg (by rw[j];decide),if_pos u],m.trans (s.mono m.size),λa=>absurd rfl a,λ_=>⟨⟨w.heap.size,d.heap.size,room,n+5,g,i,c⟩,⟨λb=>if b=d.heap.size then -5 else if w.heap.size<=b/\b<d.heap.size then -4 else 0,none,[],none,0,λ_=> [],λ_=>lM,none,0,.slice none 0 0,[],0⟩,rfl,?_,⟨rfl,rfl,rfl,rfl⟩,rfl,rfl,rfl,x⟩⟩;have h:=cu (dJ (n+6)) 2 (oR (n+6)) i;refine⟨λb a=>?_,t,if_pos rfl,⟨⟨?_,?_⟩,J.1,J.2,aa,?_⟩,ag ⟨rfl,rfl⟩,⟨rfl,List.nodup_nil,by simp[Ki],by decide,by decide,by simp[Ki]⟩,?_,⟨⟨L,(pQ t).1,ag ⟨rfl,rfl,rfl⟩⟩,?_,λ_=>rfl,λ_=>aF _,?_⟩,⟨⟨L,(pQ t).2,ag ⟨rfl,rfl⟩⟩,?_,(λb a=>by cases a)⟩,⟨ek _ _ _ _,(λb a=>by cases a)⟩,rfl,(λe V=>by cases V)⟩
  ·have a:(if b=d.heap.size then (-5:Int)else if w.heap.size<=b/\b<d.heap.size then -4 else 0)≠0:=a;show w.heap.size<=b/\b<B.heap.size;split at a
   ·omega
   ·split at a
    ·omega
    ·exact absurd rfl a
  ·exact h.2.2.2.1 _ _ _ _ s.size (h.2.2.1 _ _ _ B _ (λb a=>s.block b a.2) (h.2.1 _ _ _ _ K C) C)
  ·refine h.1 _ _ _ (λb a=>?_) (h.2.1 _ _ _ _ K C);exact(if_neg (by omega)).trans (if_pos ⟨a.1,a.2⟩)
  ·rw[jS _ _ _ _ x];exact H (fE j).1
  ·intro k b a;cases a
  ·intro b a;rcases a with a|a|⟨k,_,a⟩
   ·exact ag a
   ·cases a
   ·cases a
  ·intro k f D;cases D
  ·intro k W;cases W
theorem zH(xs:List Value)(g len c:Nat)(w:World)(v:Hid (xs.length=len*7))(t:Hid (∀d∈xs,d.oneCell'=true))(E:len<=2000000)(x:Hid (∀w1,ai w w1->∀j d,xs[j]?=some d->w1.cell? ((⟨g,0,none⟩:Addr).add j)=some d)):ak 53 #[.slice (some ⟨g,0,none⟩) len c] w λe w'=>∃r,e=.returned r/\Hid (ai w w'/\w'.ownsRow w.heap.size 40 7 r len xs):=by
 obtain⟨C,l,o,p,q⟩:=bQ ID;have a:=ao (⟨l,o,p,q⟩:_/\_/\_/\_);clear l o p q;have F:∀(w:World)(b:Option Addr)(n c h f:Nat),(binOp .eql 38 (.slice b n c) (.slice none h f)).run Tryz.prog w=.ok (.bool b.isNone) w:=λw b n c h f=>Lib.run_eql_slice_nil w _ _ b n c h f Tryz.underlying38;have D:(some (⟨g,0,none⟩:Addr)).isNone=false:=rfl;go_enter Tryz.func53,Tryz.ntmps53;go_wp2_with (at_builtin;refine wpList_append_own _ rfl _ _ 38 rfl w.heap.size 40 C _ 7 88 Tryz.underlying38 a.out.1 a.out.2.1 a.out.2.2.1 a.out.2.2.2 rfl (by decide) _ _ _ rfl (World.ownsRow_made w #[] 0 (aj _) (aF _) (by simp)) ⟨g,0,none⟩ len c xs rfl ?qc1 ?qc2 ?qc3 ?qc4 ?qc5 ?qc6 ?_)
 case qc1=>exact v.out
 case qc2=>exact x.out _ ((am _ _).alloc (aj _) _)
 case qc3=>exact t.out
 case qc4=>unfold maxLen;omega
 case qc5=>omega
 case qc6=>simp
 intro s w1 m i A;have u:Hid (ai w w1/\w1.ownsRow w.heap.size 40 7 s len xs):=by
  have y:ai w w1:=Below.grown ((am _ _).alloc (aj _) _) i (by simp) (by intro k z;simp[Value.ownBlock]at z;omega);have B:w1.ownsRow w.heap.size 40 7 s len xs:=by simpa using m
  exact⟨y,B⟩
 clear m i A;go_wp2_with fail
 go_ret
 exact⟨_,rfl,u.out⟩
theorem zG(c:Nat)(w:World):ak 53 #[.slice none 0 c] w λe w'=>e=.returned (.slice none 0 0)/\w'=w:=by
 have g:∀(w:World)(a:Option Addr)(n c d b:Nat),(binOp .eql 38 (.slice a n c) (.slice none d b)).run Tryz.prog w=.ok (.bool a.isNone) w:=λw a n c d b=>Lib.run_eql_slice_nil w _ _ a n c d b Tryz.underlying38;have f:(none:Option Addr).isNone=true:=rfl;go_enter Tryz.func53,Tryz.ntmps53;go_wp2_with fail
 go_ret
 exact⟨rfl,rfl⟩
theorem Iu(h:Nat)(q:Option Addr)(L d:Nat)(v x:Nat->Int)(y:Nat->ByteArray)(xa:Nat->Option Addr)(z xc:Nat->Nat)(w:World)(k:Option Addr->Nat->Nat->World->Prop)(E:h<w.heap.size)(U:L<=1000000)(V:L<=d)(F:q=none/\L=0/\d=0\/∃g,q=some ⟨g,0,none⟩)(r:Hid (w.cell? ⟨h,6,none⟩=some (.slice q L d)))(s:Hid (∀W,ai w W->ak 53 #[.slice q L d] W λe w'=>∃a c,e=.returned (.slice a L c)/\Hid (ai W w'/\k a c 0 w')))(t:Hid (∀a c j W,j<L->k a c j W->∃g,a=some ⟨g,0,none⟩/\W.cell? ⟨g,j*7+3,none⟩=some (ab (v j))/\W.cell? ⟨g,j*7+3+1,none⟩=some (ab (x j))/\W.cell? ⟨g,j*7+3+2,none⟩=some (ae (y j))/\W.cell? ⟨g,j*7+3+3,none⟩=some (.slice (xa j) (z j) (xc j))/\ Hid (ak 54 #[.agg #[ab (v j),ab (x j),ae (y j),.slice (xa j) (z j) (xc j)]] W λe w'=>∃y0 y1 y2 ya yl yc,e=.returned (.agg #[ab y0,ab y1,ae y2,.slice ya yl yc])/\Hid ((w'.frozen? ⟨g,j*7+3,none⟩=false/\w'.frozen? ⟨g,j*7+3+1,none⟩=false/\w'.frozen? ⟨g,j*7+3+2,none⟩=false/\w'.frozen? ⟨g,j*7+3+3,none⟩=false)/\(w'.cell? ⟨g,j*7+3,none⟩=some (ab (v j))/\w'.cell? ⟨g,j*7+3+1,none⟩=some (ab (x j))/\w'.cell? ⟨g,j*7+3+2,none⟩=some (ae (y j))/\w'.cell? ⟨g,j*7+3+3,none⟩=some (.slice (xa j) (z j) (xc j)))/\k a c (j+1) (cG w' g (j*7+3) (ab y0) (ab y1) (ae y2) (.slice ya yl yc)))))):ak 30 #[.pointer (some ⟨h,0,none⟩),ab 0] w λe w'=>∃a c,e=.returned (.slice a L c)/\Hid (k a c L w'):=by
 have b:Hid (ai w w.drew):=(am _ _).drew;have i:Hid (∀W,ai w W->W.cell? ⟨h,6,none⟩=some (.slice q L d)):=λW C=>(C.cell (p:=⟨h,6,none⟩) E).trans r.out;have M:=r.out;have aa:¬((L:Int)<0):=by omega
 have ad:(0:Int)<=(L:Int):=by omega
 have af:(L:Int)<=(d:Int):=by omega
 have ag:¬((d:Int)<(L:Int)):=by omega
 have ah:¬(d<L):=by omega
 have aj:min (0:Int) (L:Int)=0:=by omega
 go_enter Tryz.func30,Tryz.ntmps30;go_upto_region 1 with fail;rcases F with⟨rfl,rfl,rfl⟩|⟨B,rfl⟩
 ·go_region_held3 (λW=>W.cell? ⟨h,6,none⟩=some (.slice none 0 0)) (first|exact i.out _ b.out|exact i.out _ m.out) ((first
    | (go_at_call 53;refine(s.out _ b.out).mono ?_;rintro e G ⟨a,c,rfl,f⟩;have m:=ao (b.out.trans (f.out.1.mono b.out.size)))))
  have l:=ao f.out.2;clear s r i b m t f;go_wp2_with fail;go_loopw [6,23] (λ_ o wr=>o=ab 0/\Hid (k a c 0 wr)) (λ_ _ _=>0)
  case atStart=>exact⟨rfl,l.out⟩
  case round=>
  obtain⟨rfl,n⟩:=hrel;clear l;go_wp2_with fail
  go_ret
  exact⟨a,c,rfl,n.out⟩
 ·go_region_held3 (λW=>W.cell? ⟨h,6,none⟩=some (.slice (some ⟨B,0,none⟩) L d)) (first|exact i.out _ b.out|exact i.out _ m.out) ((first
    | (go_at_call 53;refine(s.out _ b.out).mono ?_;rintro e G ⟨a,c,rfl,f⟩;have m:=ao (b.out.trans (f.out.1.mono b.out.size)))))
  clear s r i b m;have l:=ao f.out.2;clear f;go_wp2_with fail;go_loopw [6,23] (λ_ o wr=>∃(j:Nat),j<=L/\o=ab j/\Hid (k a c j wr)) (λ_ o _=>L-(intOf o).toNat)
  case atStart=>exact⟨0,aF _,rfl,l.out⟩
  case round=>
  obtain⟨j,X,rfl,n⟩:=hrel;by_cases D:j<L
  ·obtain⟨g,rfl,H,I,J,K,A⟩:=t.out a c j wr D n.out;have Y:(0:Int)<=(j:Int):=by omega
   have Z:(j:Int)<(L:Int):=by omega
   clear t n;go_wp2_with fail;refine A.out.mono ?_;rintro e al ⟨y0,y1,y2,ya,yl,yc,rfl,u⟩;obtain⟨⟨Q,R,S,T⟩,N,d1,O,P⟩:=(⟨u.out.1,u.out.2.1⟩:_/\_);go_wp2_with fail;go_roundw
   case rel=>exact⟨j+1,by omega,by go_num,u.out.2.2⟩
   case measure=>simp[intOf];omega
  ·obtain rfl:j=L:=by omega
   clear t l;go_wp2_with fail
   go_ret
   exact⟨a,c,rfl,n.out⟩
def LY(base:Nat)(a:Option Addr)(d:List (ByteArray×Int×Int×Tc))(w:World):Prop:=
 (d=[]\/∃c,a=some ⟨c,0,none⟩/\base<=c/\c<w.heap.size/\∀e b,d[e]?=some b->∀(t:Nat)(f:Value),(Fg b)[t]?=some f->w.cell? ⟨c,e*7+t,none⟩=some f)/\∀b∈d,(In w.heap.size w 13 b.2.2.2/\bZ (λg=>base<=g) 13 b.2.2.2)/\zW b.2.2.2
def DJ(a:Option Addr)(L c:Nat):Prop:=(a=none/\L=0/\c=0)\/((∃g,a=some ⟨g,0,none⟩)/\L<=c)
def Ns(e:ByteArray×Int×Int×Tc):ByteArray×Int×Int×Tc:=(e.1,e.2.1,e.2.2.1,cn 13 e.2.2.2)
theorem E0(xa:Option Addr)(xc:Nat)(w:World):Nx 0 0 ⟨#[]⟩ xa 0 xc sJ w:=λW h=>by
 refine(rz 12 0 0 ⟨#[]⟩ xa 0 xc [] W (by decide) λw1 c=>?_).mono ?_
 ·refine(kP xa xc w1).mono ?_;rintro e w' ⟨rfl,rfl⟩;exact⟨none,0,[],rfl,am _ _,rfl,aj _,aF _,rfl,ag rfl⟩
 ·rintro e w' ⟨a,b,l,rfl,H⟩;obtain⟨c,d,g,f,_⟩:=H.out;obtain rfl:l=[]:=bB d;exact⟨0,0,⟨#[]⟩,a,0,b,rfl,c,((0,0,⟨#[]⟩),(a,b),[]),⟨rfl,rfl,rfl⟩,⟨⟨⟨show dk 0 by unfold dk;decide,show dk 0 by unfold dk;decide,show (0:Nat)<=maxLen from aF _,aF _,f⟩,ag rfl⟩,ag rfl⟩,rfl,ah ⟨rfl,rfl⟩⟩
theorem MK{x:Tc}{w:World}(d:In w.heap.size w 13 x)(a:zW x):Nx x.1.1 x.1.2.1 x.1.2.2 x.2.1.1 x.2.2.length x.2.1.2 (cn 13 x) w:=by
 rcases a with a|⟨b,c⟩
 ·exact jL d a
 ·obtain⟨⟨g,h,i⟩,⟨e,f⟩,j⟩:=x;simp only[ei]at b c;obtain⟨rfl,rfl,rfl⟩:=b;subst c;exact E0 e f w
theorem KR(l:List (ByteArray×Int×Int×Tc)):∀b∈l.flatMap Fg,b.oneCell'=true:=λb c=>by
 obtain⟨e,_,a⟩:=jg.1 c;simp only[Fg,cB,gf,gm]at a;rcases a with rfl|rfl|rfl|rfl|rfl|rfl|rfl<;>rfl
section
variable {p:kJ} {s:Sy} {d:fS} {w:World}
theorem aX.eventsF(B:aX p s d w)(a8:d.es.length<=100000):ak 30 #[.pointer (some ⟨p.b,0,none⟩),ab 0] w λe w'=>∃a c,e=.returned (.slice a d.es.length c)/\Hid (ai w w'/\DJ a d.es.length c/\∃an,an.length=d.es.length/\an.map Ns=s.evs/\LY w.heap.size a an w'):=by
 obtain⟨H,D,ax,aV,az⟩:∃H D,d.ev=.slice H d.es.length D/\d.es.length<=D/\(H=none/\d.es.length=0/\D=0\/∃g,H=some ⟨g,0,none⟩):=by
  rcases B.evr.1.2 with⟨e,Q⟩|⟨g,c,ap,e,_,_,k,_⟩
  ·exact⟨none,0,by rw[e,Q],by omega,ag ⟨rfl,Q,rfl⟩⟩
  ·exact⟨_,c,e,k,ah ⟨g,rfl⟩⟩
 obtain⟨q,R⟩:∃q:Nat->ByteArray×Int×Int×Tc,∀h,h<d.es.length->d.es[h]?=some (q h):=⟨λh=>d.es.getD h (⟨#[]⟩,0,0,sJ),λh C=>by
  simp only[mf,aE C]
  rfl⟩
 have aW:∀j,ai w j->∀h,h<d.es.length->In j.heap.size j 13 (q h).2.2.2/\zW (q h).2.2.2:=λj z h C=>by
  have:=(B.later z).evt.2 _ (aG (R h C));exact⟨this.1.1,this.2⟩
 have X:=B.evr.1;rw[ax]at X;have aH:w.cell? ⟨p.b,6,none⟩=some (.slice H d.es.length D):=by
  have E:=af B.box 6;simp only[dL,cI,cV]at E;rw[ax]at E;exact E
 refine(Iu p.b H d.es.length D (λh=>(q h).2.2.2.1.1) (λh=>(q h).2.2.2.1.2.1) (λh=>(q h).2.2.2.1.2.2) (λh=>(q h).2.2.2.2.1.1) (λh=>(q h).2.2.2.2.2.length) (λh=>(q h).2.2.2.2.1.2) w
  (λa c h j=>ai w j/\DJ a d.es.length c/\(d.es.length=0\/∃(g:Nat)(f:Nat->ByteArray×Int×Int×Tc),a=some ⟨g,0,none⟩/\(w.heap.size<=g/\g<j.heap.size)/\(∀o,j.frozen? ⟨g,o,none⟩=false)/\(∀i,i<d.es.length->∀(t:Nat)(n:Value),(Fg (f i))[t]?=some n->j.cell? ⟨g,i*7+t,none⟩=some n)/\(∀i,i<h->(Ns (f i)=Ns (q i)/\zW (f i).2.2.2)/\In j.heap.size j 13 (f i).2.2.2/\bZ (λr=>w.heap.size<=r/\r≠g) 13 (f i).2.2.2)/\∀i,h<=i->i<d.es.length->f i=q i)) B.lo.2 (by omega) aV az aH (λj z=>?_) (λa c h j C L=>?_)).mono ?_
 ·rcases az with⟨rfl,Q,rfl⟩|⟨g,rfl⟩
  ·rw[Q];refine(zG 0 j).mono ?_;rintro e w' ⟨rfl,rfl⟩;exact⟨none,0,rfl,am _ _,z,ag ⟨rfl,rfl,rfl⟩,ag rfl⟩
  ·have x:=X.lt g rfl;refine(zH (d.es.flatMap Fg) g d.es.length D j X.1 (KR _) (by omega) λbf A h n m=>?_).mono ?_
   ·have E:=World.ownsRow.cells X (g:=g) rfl h n m;have aL:=z.trans (A.mono z.size);exact(aL.cell (p:=(⟨g,0,none⟩:Addr).add h) (by simp only[Addr.add];split<;>exact x.2)).trans E
   ·rintro e w' ⟨be,rfl,I⟩;obtain⟨y,F⟩:=I.out;obtain⟨a,c,aI,aq,ar⟩:=qJ F (by decide) λP=>rfl;subst aI;have N:DJ a d.es.length c:=by
     rcases F.2 with⟨v,Y⟩|⟨J,a6,ap,v,_,_,Y,_⟩
     ·injection v with v aB aC;exact ag ⟨v,Y,aC⟩
     ·injection v with v aB aC;exact ah ⟨⟨J,v⟩,by omega⟩
    refine⟨a,c,rfl,y,z.trans (y.mono z.size),N,?_⟩;by_cases K:d.es.length=0
    ·exact ag K
    ·obtain⟨J,v,Y,aB⟩:=ar 0 _ (R 0 (by omega));obtain⟨ap,aN⟩:=dS F J (aq _ v);have a9:=z.size;refine ah ⟨J,q,v,⟨by have:=(F.lt J (aq _ v)).1;omega,Y⟩,λo=>by simp[World.frozen?,aN],λi l t n m=>?_,λi l=>by omega,λ_ _ _=>rfl⟩;obtain⟨a7,G,bd,a3⟩:=ar i _ (R i l);rw[v]at G;injection G with G;injection G with G;subst G;exact a3 t n m
 ·obtain⟨A,N,L⟩:=L;rcases L with K|⟨g,f,rfl,x,aA,T,S,M⟩
  ·omega
  have aO:=M h (aj _) C;have k:=T h C;rw[aO]at k;refine⟨g,rfl,k 3 _ rfl,k 4 _ rfl,k 5 _ rfl,k 6 _ rfl,?_⟩;obtain⟨a4,a5⟩:=aW j A h C;refine(MK a4 a5 j (am _ _)).mono ?_;rintro e w' ⟨y0,y1,y2,ya,yl,yc,rfl,I⟩;obtain⟨y,aD,⟨av,aw,aJ⟩,⟨F,a0⟩,a1,a2⟩:=I.out;have u:∀{o:Nat}{n:Value},j.cell? ⟨g,o,none⟩=some n->w'.cell? ⟨g,o,none⟩=some n:=λ{o n} r=>(y.cell (p:=⟨g,o,none⟩) x.2).trans r;have O:∀o,w'.frozen? ⟨g,o,none⟩=false:=λo=>(y.frozen (p:=⟨g,o,none⟩) x.2).trans (aA o);refine⟨y0,y1,y2,ya,yl,yc,rfl,⟨O _,O _,O _,O _⟩,⟨u (k 3 _ rfl),u (k 4 _ rfl),u (k 5 _ rfl),u (k 6 _ rfl)⟩,?_⟩;have aQ:=nB w' g (h*7+3) (ab y0) (ab y1) (ae y2) (.slice ya yl yc);have bc:=bj (w:=w') (g:=g) (o:=h*7+3) (ab y0) (ab y1) (ae y2) (.slice ya yl yc);have V:=wJ (ab y0) (ab y1) (ae y2) (.slice ya yl yc) ⟨u (k 3 _ rfl),u (k 4 _ rfl),u (k 5 _ rfl),u (k 6 _ rfl)⟩;have U:=λo (aS:o<h*7+3\/h*7+3+4<=o)=>AT (w:=w') (g:=g) (v0:=ab y0) (v1:=ab y1) (v2:=ae y2) (v3:=.slice ya yl yc) o aS;have aP:=λo=>(sA (w:=w') (g:=g) (o:=h*7+3) (v0:=ab y0) (v1:=ab y1) (v2:=ae y2) (v3:=.slice ya yl yc) o).trans (O o);have aT:ai w (cG w' g (h*7+3) (ab y0) (ab y1) (ae y2) (.slice ya yl yc)):=dp (A.trans (y.mono A.size)) x.1;generalize cG w' g (h*7+3) (ab y0) (ab y1) (ae y2) (.slice ya yl yc)=ao at*;have ba:=y.size;have bb:=A.size;have ay:∀{Z:Tc},In w'.heap.size w' 13 Z->bZ (λr=>w.heap.size<=r/\r≠g) 13 Z->In ao.heap.size ao 13 Z/\bZ (λr=>w.heap.size<=r/\r≠g) 13 Z:=λaY aZ=>eS aQ (λr P aF=>P.2 aF) ⟨aY,aZ⟩;refine⟨aT,N,ah ⟨g,λi=>if i=h then ((q h).1,(q h).2.1,(q h).2.2.1,aD)else f i,rfl,⟨x.1,by omega⟩,aP,λi l t n m=>?_,λi l=>?_,λi E aK=>?_⟩⟩
  ·have aU:t<7:=by
     have:=(aM.1 m).1;simpa [Fg]using this
   by_cases e:i=h
   ·subst e;simp only[cM]at m;obtain⟨⟨bg,bh,aF⟩,⟨bi,bk⟩,bl⟩:=aD;simp only[ei]at av aw;obtain⟨rfl,rfl,rfl⟩:=av;obtain⟨rfl,rfl⟩:=aw;subst aJ
    match t,aU with
    | 0,_=>exact(U _ (by omega)).trans (u (k 0 n m))
    | 1,_=>exact(U _ (by omega)).trans (u (k 1 n m))
    | 2,_=>exact(U _ (by omega)).trans (u (k 2 n m))
    | 3,_=>exact V.1.trans m
    | 4,_=>exact V.2.1.trans m
    | 5,_=>exact V.2.2.1.trans m
    | 6,_=>exact V.2.2.2.trans m
   ·simp only[if_neg e]at m;exact(U _ (by omega)).trans (u (T i l t n m))
  ·by_cases e:i=h
   ·simp only[e,cM];have:=ay F (a0.mono λr P=>⟨by omega,by omega⟩);refine⟨⟨?_,a2⟩,this.1,this.2⟩;unfold Ns;rw[a1]
   ·simp only[if_neg e];obtain⟨aa,ad,al⟩:=S i (by omega);have:=ay ((ad.below y).mono y.size) al;exact⟨aa,this.1,this.2⟩
  ·simp only[if_neg (show¬i=h by omega)];exact M i (by omega) aK
 ·rintro e w' ⟨a,c,rfl,I⟩;obtain⟨A,N,L⟩:=I.out;refine⟨a,c,rfl,A,N,?_⟩;rcases L with K|⟨g,f,rfl,x,aA,T,S,M⟩
  ·have aR:d.es=[]:=bB K;refine⟨[],by rw[K];rfl,?_,ag rfl,λe M=>by cases M⟩;rw[<-B.evt.1,aR];rfl
  ·refine⟨(List.range d.es.length).map f,by simp,?_,ah ⟨g,rfl,x.1,x.2,λi e l t n m=>?_⟩,λe l=>?_⟩
   ·rw[<-B.evt.1];refine List.ext_getElem? λi=>?_;by_cases l:i<d.es.length
    ·rw[dh,dh,dh,List.getElem?_range l,R i l];exact congrArg some (S i l).1.1
    ·rw[eg (by simpa using Nat.le_of_not_lt l),eg (by simpa using Nat.le_of_not_lt l)]
   ·have W:i<d.es.length:=by
      have:=(aM.1 l).1;simpa using this
    rw[dh,List.getElem?_range W]at l;obtain rfl:=au l;exact T i W t n m
   ·obtain⟨i,W,rfl⟩:=bU.1 l;obtain⟨aa,ad,al⟩:=S i (List.mem_range.1 W);exact⟨⟨ad,al.mono λr P=>P.1⟩,aa.2⟩
theorem aX.events(h:aX p s d w)(i:d.es.length<=100000):ak 10 #[.pointer (some ⟨p.b,0,none⟩)] w λe w'=>∃a c,e=.returned (.slice a d.es.length c)/\Hid (ai w w'/\DJ a d.es.length c/\∃f,f.length=d.es.length/\f.map Ns=s.evs/\LY w.heap.size a f w'):=by
 have g:=ao (h.eventsF i);clear h i;generalize d.es.length=k at*;go_enter Tryz.func10,Tryz.ntmps10;go_wp2_with fail;refine g.out.mono ?_;rintro e l ⟨a,c,rfl,j⟩;clear g;go_wp2_with fail
 go_ret
 exact⟨a,c,rfl,j.out⟩
end
theorem Bj(b:Nat)(name:ByteArray)(w:World)(d:w.cell? ⟨b,0,none⟩=some (ae name))(c:Hid (∀w1:World,ak 41 #[ae name] w1 λe w'=>e=.returned (ae name)/\ai w1 w')):ak 23 #[.pointer (some ⟨b,0,none⟩)] w λe w'=>e=.returned (ae name)/\ai w w':=by
 go_enter Tryz.func23,Tryz.ntmps23;go_wp2_with fail;refine(c.out _).mono ?_;rintro e w1 ⟨rfl,a⟩;have HB:=ao a;clear a;go_wp2_with fail
 go_ret
 exact⟨rfl,HB.out⟩
theorem P1.sname{b a:Nat}{name:ByteArray}{room:Int}{cs:Tc}{c:List Tc}{k:Nat}{M:Nat->Prop}{w:World}(d:P1 b a name room cs c k M w)(h:name.size<=2048):ak 23 #[.pointer (some ⟨a,0,none⟩)] w λe w'=>e=.returned (ae name)/\ai w w':=by
 obtain⟨l,s,p,x,r,t,v,n,o,j,f,_⟩:=d;obtain⟨u,m,q,g,_⟩:=f.heap.box;exact Bj a name w (PL.cells g).1 λi=>dF name i h
theorem P1.mails2{v u:Nat}{name:ByteArray}{room:Int}{cs:Tc}{g:List Tc}{k:Nat}{M:Nat->Prop}{w:World}(C:P1 v u name room cs g k M w)(I:k<=50000)(D:g.length<=999):ak 25 #[.pointer (some ⟨u,0,none⟩)] w λe w'=>∃(ys:List Tc)(a:Option Addr)(c:Nat),e=.returned (.slice a g.length c)/\Hid (ys.length=g.length/\ai w w'/\ft w'.heap.size w' 13 ys a/\ys.map (cn 13)=g/\(∀b,(Value.slice a g.length c).ownBlock=some b->w.heap.size<=b)/\∀y∈ys,bq 13 y=0/\bZ (λq=>w.heap.size<=q) 13 y):=by
 obtain⟨Q,Y,l,ab,X,Z,aa,V,W,O,s,⟨rfl,rfl⟩,T,U⟩:=C;have G:∀y∈l,bq 13 y=0:=λy d=>((s.front (N:=12)).2.2.1 y (bH _ d)).1;have S:l.length<=999:=by simpa using D
 refine(s.mails (N:=12) I (by omega)).mono ?_;rintro e w' ⟨ys,z,a,c,rfl,x⟩;obtain⟨t,j,p⟩:=x.out;have E:z=(l.map (cn 13)).length:=by
  rw[<-t,eh];exact cw _ _ _ p
 subst E;obtain⟨P,R,m,_,n,_⟩:=eU.lay (dM 13) (f:=gX 13) (λ_=>rfl) j;injection m with m _ _;subst m;refine⟨ys,a,c,rfl,t,j.1,?_,Ov ys l p,λb F=>(j.2.1.lt b F).1,λy d=>⟨?_,(j.2.2 y d).2.mono λq J=>by rcases J.1 with r|r<;>omega⟩⟩
 ·rcases n with n|⟨B,o,A,H,h⟩
  ·exact ag n
  ·exact ah ⟨B,o,A,H,λi y d=>⟨⟨(h i y d).1 0 _ rfl,(h i y d).1 1 _ rfl,(h i y d).1 2 _ rfl,(h i y d).1 3 _ rfl⟩,(h i y d).2⟩⟩
 ·obtain⟨r,L,K⟩:=rP _ _ _ p y d;exact(bL K).trans (G r L)
section
variable {p:kJ} {s:Sy} {d:fS} {w:World}
end
theorem Bl(g:Nat)(u:Option Nat)(a:Int)(nm:ByteArray)(l:Value)(L:Nat)(w:World)(K:Int->Int->ByteArray->Option Addr->Nat->Nat->World->Prop)(J:Int->Int->ByteArray->Option Addr->Nat->Nat->Option Addr->Nat->World->Prop)(S:g<w.heap.size)(A:Hid (w.cell? ⟨g,3,none⟩=some (.map u)))(B:Hid (∀W,ai w W->(Instr.lookup 62 (.map u) (ab a) true).run Tryz.prog W=.ok (.tuple #[l,.bool true]) W))(E:Hid (∀W,ai w W->ak 23 #[l] W λe w'=>e=.returned (ae nm)/\ai W w'))(F:Hid (∀W,ai w W->w.heap.size<W.heap.size->ak 24 #[l] W λe w'=>∃y0 y1 y2 ya yl yc,e=.returned (.agg #[ab y0,ab y1,ae y2,.slice ya yl yc])/\Hid (ai W w'/\K y0 y1 y2 ya yl yc w')))(C:Hid (∀y0 y1 y2 ya yl yc W,ai w W->w.heap.size<W.heap.size->K y0 y1 y2 ya yl yc W->ak 25 #[l] W λe w'=>∃ma d,e=.returned (.slice ma L d)/\Hid (ai W w'/\∀I,bk (λq=>q=w.heap.size) w' I->J y0 y1 y2 ya yl yc ma d I))):ak 7 #[.pointer (some ⟨g,0,none⟩),ab a] w λe w'=>∃y0 y1 y2 ya yl yc ma d,e=.returned (.tuple #[ae nm,.agg #[ab y0,ab y1,ae y2,.slice ya yl yc],.slice ma L d,ab 0])/\Hid (J y0 y1 y2 ya yl yc ma d w'/\ai w w'):=by
 go_enter Tryz.func7,Tryz.ntmps7;go_upto_region 1 with fail;generalize t:w.alloc _=x;have HB:Hid (ai w x):=by
  rw[<-t];exact(am _ _).alloc (aj _) _
 have G:Hid (x.heap[w.heap.size]?=some (.cells #[ab 0,ab 0,ae ⟨#[]⟩,.slice none 0 0] 30)):=by
  rw[<-t];exact az _ _
 clear t;have R:=B.out _ HB.out;have Q:x.cell? ⟨g,3,none⟩=some (.map u):=(HB.out.cell (p:=⟨g,3,none⟩) S).trans A.out;clear B A;go_wp2_with fail;refine(E.out _ HB.out).mono ?_;rintro e Y ⟨rfl,r⟩;have j:=ao (HB.out.trans (r.mono HB.out.size));have m:=ao (en r G.out);clear r E R Q HB G;go_wp2_with fail;refine(F.out _ j.out (aC.1 m.out).1).mono ?_;rintro e Z ⟨y0,y1,y2,ya,yl,yc,rfl,h⟩;have k:=ao (j.out.trans (h.out.1.mono j.out.size));have n:=ao (en h.out.1 m.out);have D:=ao (C.out _ _ _ _ _ _ _ k.out (aC.1 n.out).1 h.out.2);clear C h F j m;go_wp2_with fail;refine D.out.mono ?_;rintro e b ⟨ma,d,rfl,i⟩;have y:=ao (k.out.trans (i.out.1.mono k.out.size));have c:=en i.out.1 n.out;have H:=ao (i.out.2 _ (nB b w.heap.size 0 (ab y0) (ab y1) (ae y2) (.slice ya yl yc)));have z:Hid (ai w (cG b w.heap.size 0 (ab y0) (ab y1) (ae y2) (.slice ya yl yc))):=(dp (o:=0) (v0:=ab y0) (v1:=ab y1) (v2:=ae y2) (v3:=.slice ya yl yc) y.out (aj _));have f:=ao (rI c (ab y0) (ab y1) (ae y2) (.slice ya yl yc));obtain⟨q,s⟩:∃q,q=w.heap.size:=⟨_,rfl⟩;rw[<-s]at c f z H ⊢;have P:=ao s;clear s;have aa:b.cell? ⟨q,0,none⟩=some (ab 0):=af c 0;have ad:b.cell? ⟨q,1,none⟩=some (ab 0):=af c 1;have ag:b.cell? ⟨q,2,none⟩=some (ae ⟨#[]⟩):=af c 2;have ah:b.cell? ⟨q,3,none⟩=some (.slice none 0 0):=af c 3;have T:b.frozen? ⟨q,0,none⟩=false:=by simp[World.frozen?,c]
 have U:b.frozen? ⟨q,1,none⟩=false:=by simp[World.frozen?,c]
 have V:b.frozen? ⟨q,2,none⟩=false:=by simp[World.frozen?,c]
 have X:b.frozen? ⟨q,3,none⟩=false:=by simp[World.frozen?,c]
 clear c i D n k y;go_wp2_with fail;have M:(cG b q 0 (ab y0) (ab y1) (ae y2) (.slice ya yl yc)).cell? ⟨q,0,none⟩=some (ab y0):=af f.out 0;have d1:(cG b q 0 (ab y0) (ab y1) (ae y2) (.slice ya yl yc)).cell? ⟨q,1,none⟩=some (ab y1):=af f.out 1;have N:(cG b q 0 (ab y0) (ab y1) (ae y2) (.slice ya yl yc)).cell? ⟨q,2,none⟩=some (ae y2):=af f.out 2;have O:(cG b q 0 (ab y0) (ab y1) (ae y2) (.slice ya yl yc)).cell? ⟨q,3,none⟩=some (.slice ya yl yc):=af f.out 3;simp only[cG,cP]at M d1 N O;exact ar (v:=.tuple #[ae nm,.agg #[ab y0,ab y1,ae y2,.slice ya yl yc],.slice ma L d,ab 0]) (by simp[results,Tryz.results7,go_sem,M,d1,N,O]) rfl ⟨y0,y1,y2,ya,yl,yc,ma,d,rfl,H.out,P.out▸z.out⟩
def mw(t:Tc)(B:Nat)(y0 y1:Int)(y2:ByteArray)(ya:Option Addr)(yl yc:Nat)(W:World):Prop:=∃(m:Nat)(x:Tm (m+1)),(x.1=(y0,y1,y2)/\x.2.1=(ya,yc)/\x.2.2.length=yl)/\aw (m+1) x 13 t=true/\In W.heap.size W (m+1) x/\bZ (λq=>B<=q/\q<W.heap.size) (m+1) x
theorem mw.kee{t:Tc}{B:Nat}{y0 y1:Int}{y2:ByteArray}{ya:Option Addr}{yl yc:Nat}{W b:World}(d:mw t B y0 y1 y2 ya yl yc W){S:Nat->Prop}(c:bk S W b)(i:∀q,B<=q->q<W.heap.size->¬S q):mw t B y0 y1 y2 ya yl yc b:=by
 obtain⟨j,k,e,f,g,h⟩:=d;have:=eS c (D:=λq=>B<=q/\q<W.heap.size) (λq a=>i q a.1 a.2) ⟨g,h⟩;exact⟨j,k,e,f,this.1,this.2.mono λq a=>⟨a.1,aL a.2 c.size⟩⟩
def rZ(a:List Tc)(B:Nat)(ma:Option Addr)(W:World):Prop:=∃ys:List Tc,ys.length=a.length/\ft W.heap.size W 13 ys ma/\ys.map (cn 13)=a/\(∀y∈ys,bq 13 y=0/\bZ (λq=>B<=q) 13 y)/\∀g o,ma=some ⟨g,o,none⟩->B<=g
theorem rZ.kee{f:List Tc}{B:Nat}{ma:Option Addr}{W b:World}(v:rZ f B ma W){S:Nat->Prop}(e:bk S W b)(k:∀q,B<=q->q<W.heap.size->¬S q):rZ f B ma b:=by
 obtain⟨F,A,C,E,n,m⟩:=v;refine⟨F,A,?_,E,n,m⟩;rcases C with s|⟨a,o,t,c,u⟩
 ·exact ag s
 ·subst t;have x:=m a o rfl;refine ah ⟨a,o,rfl,aL c e.size,λz p l=>?_⟩;have w:b.heap[a]?=W.heap[a]? :=e.block a c (k a x c);have d:=u z p l;have y:=eS e (D:=λq=>B<=q/\q<W.heap.size) (λq r=>k q r.1 r.2) ⟨d.2,In.offB (n p (aG l)).2 d.2⟩;refine⟨?_,y.1⟩;obtain⟨g,h,i,j⟩:=d.1;simp only[World.cell?,<-w]at g h i j;exact⟨g,h,i,j⟩
section
variable {p:kJ} {s:Sy} {d:fS} {w:World}
theorem aX.procS(j:aX p s d w){a:Int}{nm:ByteArray}{cs:Tc}{f:List Tc}(F:s.get a=some (nm,cs,f))(R:nm.size<=2048)(al:d.k<=47000):ak 7 #[.pointer (some ⟨p.b,0,none⟩),ab a] w λe w'=>∃y0 y1 y2 ya yl yc ma m,e=.returned (.tuple #[ae nm,.agg #[ab y0,ab y1,ae y2,.slice ya yl yc],.slice ma f.length m,ab 0])/\Hid ((mw cs w.heap.size y0 y1 y2 ya yl yc w'/\rZ f w.heap.size ma w')/\ai w w'):=by
 obtain⟨n,G⟩:∃n,cN d.l a=some n:=by
  have:=j.alive a;rw[F]at this;exact fJ.1 this
 obtain⟨Y,J,I,C,v,aj⟩:=j.ps a n G;rw[F]at C;obtain⟨rfl,rfl,rfl⟩:nm=Y/\cs=J/\f=I:=by simpa using C
 refine Bl p.b d.po a nm (yZ n) f.length w (λy0 y1 y2 ya yl yc h=>mw cs (w.heap.size+1) y0 y1 y2 ya yl yc h) (λy0 y1 y2 ya yl yc ma m w'=>mw cs w.heap.size y0 y1 y2 ya yl yc w'/\rZ f w.heap.size ma w') j.lo.2 j.cells.2.2.2 (λh g=>?_) (λh g=>(v.later g).sname R) (λh g Q=>?_) λy0 y1 y2 ya yl yc h g Q P=>?_
 ·have:=(j.later g).look a true;rw[if_pos rfl,G]at this;exact this
 ·refine((v.later g).state (by omega)).mono ?_;rintro e w' ⟨c,rfl,t⟩;obtain⟨K,D,L,M,N⟩:=t.out;refine⟨c.1.1,c.1.2.1,c.1.2.2,c.2.1.1,c.2.2.length,c.2.1.2,rfl,K,12,c,⟨rfl,rfl,rfl⟩,?_,D,(In.offB L D).mono λq i=>⟨by omega,i.2⟩⟩;rw[<-N];exact dq _ _ _ _ (eC M)
 ·refine((v.later g).mails2 (by omega) (by omega)).mono ?_;rintro e w' ⟨B,ma,m,rfl,t⟩;obtain⟨T,x,U,V,W,X⟩:=t.out;have am:=x.size;refine⟨ma,m,rfl,x,λah E=>⟨?_,?_⟩⟩
  ·obtain⟨S,aa,y,z,A,r⟩:=(P.kee (aD x λ_=>False) λ_ _ _ i=>i).kee E λq ad af ag=>by omega
   exact⟨S,aa,y,z,A,r.mono λq i=>⟨by omega,i.2⟩⟩
  ·have O:rZ f h.heap.size ma w':=⟨B,T,U,V,X,λu o e=>W u (by rw[e];rfl)⟩;obtain⟨B,y,z,A,r,Z⟩:=O.kee E λq ad af ag=>by omega
   exact⟨B,y,z,A,λc H=>⟨(r c H).1,(r c H).2.mono λq i=>by omega⟩,λu o e=>by have:=Z u o e;omega⟩
end
end Go.Proofs.YtckamaoibonjcaaGreat
