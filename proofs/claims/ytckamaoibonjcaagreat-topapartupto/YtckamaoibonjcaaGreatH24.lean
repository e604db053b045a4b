/- What is proved here: plain facts and contracts that the claimed theorem stands on. No condition but those that each names. -/
import Derived.Test.YtckamaoibonjcaaGreatH23
import Derived.Test.YtckamaoibonjcaaGreatH22
namespace Go.Proofs.YtckamaoibonjcaaGreat
open Go.RowKit
theorem nB(w:World)(g o:Nat)(v0 v1 v2 v3:Value):bk (λb=>b=g) w (cG w g o v0 v1 v2 v3):=
 bk.trans (bk.trans (bk.trans (bt w g o v0) (bt _ g (o+1) v1) λ_ _ a=>a) (bt _ g (o+2) v2) λ_ _ a=>a) (bt _ g (o+3) v3) λ_ _ a=>a
theorem AT{w:World}{g o:Nat}{v0 v1 v2 v3:Value}(j:Nat)(a:j<o\/o+4<=j):(cG w g o v0 v1 v2 v3).cell? ⟨g,j,none⟩=w.cell? ⟨g,j,none⟩:=by
 unfold cG;rw[dl j (by omega),dl j (by omega),dl j (by omega),dl j (by omega)]
theorem wJ{w:World}{g o:Nat}{f h i j:Value}(v0 v1 v2 v3:Value)(a:w.cell? ⟨g,o,none⟩=some f/\w.cell? ⟨g,o+1,none⟩=some h/\w.cell? ⟨g,o+2,none⟩=some i/\w.cell? ⟨g,o+3,none⟩=some j):(cG w g o v0 v1 v2 v3).cell? ⟨g,o,none⟩=some v0/\(cG w g o v0 v1 v2 v3).cell? ⟨g,o+1,none⟩=some v1/\(cG w g o v0 v1 v2 v3).cell? ⟨g,o+2,none⟩=some v2/\(cG w g o v0 v1 v2 v3).cell? ⟨g,o+3,none⟩=some v3:=by
 obtain⟨b,c,d,e⟩:=a;unfold cG;refine⟨?_,?_,?_,?_⟩
 ·rw[dl o (by omega),dl o (by omega),dl o (by omega)];exact gJ _ _ _ b
 ·rw[dl (o+1) (by omega),dl (o+1) (by omega)];exact gJ _ _ _ ((dl (o+1) (by omega)).trans c)
 ·rw[dl (o+2) (by omega)];exact gJ _ _ _ ((dl (o+2) (by omega)).trans ((dl (o+2) (by omega)).trans d))
 ·exact gJ _ _ _ ((dl (o+3) (by omega)).trans ((dl (o+3) (by omega)).trans ((dl (o+3) (by omega)).trans e)))
theorem sA{w:World}{g o:Nat}{v0 v1 v2 v3:Value}(j:Nat):(cG w g o v0 v1 v2 v3).frozen? ⟨g,j,none⟩=w.frozen? ⟨g,j,none⟩:=by
 unfold cG;rw[gu,gu,gu,gu]
theorem Fc(w:World)(p:Addr):w.drew.cell? p=w.cell? p:=rfl
theorem zU(w:World)(p:Addr):w.drew.frozen? p=w.frozen? p:=rfl
theorem dr.far{w w':World}{g o:Nat}{n:Nat}{x:Tm n}(b:dr w g o n x)(a:∀j,o<=j->j<o+4->w'.cell? ⟨g,j,none⟩=w.cell? ⟨g,j,none⟩):dr w' g o n x:=by
 cases n with
 | zero=>exact b.elim
 | succ n=>
  obtain⟨c,d,e,f⟩:=b;exact⟨(a _ (by omega) (by omega)).trans c,(a _ (by omega) (by omega)).trans d,(a _ (by omega) (by omega)).trans e,(a _ (by omega) (by omega)).trans f⟩
theorem MZ(a:Int)(D:Nat)(h:1<=a/\a<=99):AL (D+1) (bJ 3 a D)=true/\cn (D+1) (bJ 3 a D)=CY a:=by
 refine⟨?_,rfl⟩;have f:bT (D+1) (bJ 3 a D)=true:=by
  rw[<-aJ];intro b c;have:b=((3,a,.empty),(none,0,0)):=by simpa [av,bJ]using c
  subst this;have g:pY a 1 99=true:=by simp[pY];omega
  simp[cq,g]
 have d:bq (D+1) (bJ 3 a D)=0:=bz.2 ⟨f,by simp[fm,bJ],by simp[sz,bJ]⟩;have e:aH (D+1) (bJ 3 a D)=true:=by simp[aH,bJ]
 simp only[AL,d,aB,g9];refine⟨rfl,ah ?_⟩;rw[<-fj];exact e
theorem Kz{D:Nat}{l:List (Tm D)}(a:fV D l=true)(i:Nat){y:Tm D}(c:AL D y=true):fV D (l.set i y)=true:=by
 simp only[fV,List.length_set,aB,bX,b9]at a ⊢;refine⟨a.1,λd b=>?_⟩;rcases rY b with b|rfl
 ·exact a.2 d b
 ·exact c
section
variable {base db:Nat} {self:Int} {n D k:Nat} {nx:Int} {d:Dg} {w:World} {l:List (Tm (D+1))} {bg bc:Nat} {sd:List (Int×Tm (D+1+n+1))} {sp:List (Int×ByteArray×Tm (D+1+n+1))} {sv pv lv:Value}
theorem dT.spawn(h:dT base db self n D k nx d w l bg bc sd sp sv pv lv)(a:Ac (n+1))(aO:ic (n+1) base w a)(aj:bq (n+1) a.2.1.2=0)(aN:a.1=2)(aZ:dE a.2.2.1=true)(bz:0<=a.2.2.2/\a.2.2.2<4)(a1:1<=self/\self<=99)(br:k<=7):ak 162 #[.pointer (some ⟨db,0,none⟩),Nr a] w λe w'=>∃t,e=.returned (.bool t)/\Hid (xw base db self n D k nx d a (kM db bg sv pv lv) w t w'):=by
 have ar:=h.pRow;obtain⟨M,N,rfl⟩:=lS ar;obtain⟨bl,bm,bn,bo,aL,aM⟩:=h.few;obtain⟨m,Y⟩:∃m:Nat,a.2.2.2=(m:Int):=⟨a.2.2.2.toNat,by omega⟩;have a4:m<4:=by omega
 have bp:=(gQ h.bnd).1;obtain⟨p,ay⟩:∃p,l[m]?=some p:=⟨l[m]'(by omega),aE _⟩;obtain⟨y1,y2,bE⟩:=h.row m p ay;have aR:d.b[m]?=some (cn (D+1) p):=by rw[<-h.tells,dh,ay];rfl
 have F:qu self a d=(rS d.b self (n+1) a.2.1.2).bind λt=>if p.1.1=6 then some {d with b:=d.b.set m (CY d.next),next:=d.next+1,spawns:=d.spawns++ [(d.next,a.2.2.1,t)]}else none:=by
  have aV:bN ⟨13,(d.b[a.2.2.2.toNat]?).getD (CY 0)⟩=p.1.1:=by
   rw[Y,Int.toNat_natCast,aR];rfl
  have aW:¬a.1=1:=by omega
  unfold qu;rw[if_neg aW,if_pos aN,aV,Y,Int.toNat_natCast]
 obtain⟨a2,a3⟩:=h.told (self:=self) a.2.1.2 aj
 have q:=Dh (D+1+n) a.1 a.2.1.1.1.1 a.2.1.1.1.2.1 a.2.1.1.1.2.2 a.2.1.1.2.1.1 a.2.1.1.2.2.length a.2.1.1.2.1.2 a.2.1.2.1.1 a.2.1.2.1.2.1 a.2.1.2.1.2.2 a.2.1.2.2.1.1 a.2.1.2.2.2.length a.2.1.2.2.1.2 a.2.2.1 m base db M sp.length N _ w (np 0 (vl (D+1) l self (n+1) a.2.1.2)) bg bc d.next p.1.1 p.1.2.1 p.1.2.2 p.2.1.1 p.2.2.length p.2.1.2 a4 (by omega) h.lt h.own.2.2.2.1 h.own.1 h.own.2.2.2.2 (by omega) (by omega) (by
   simp only[dE,pY,aB,bX]at aZ
   omega)
  ⟨af h.box 4,af h.box 0,af h.box 2,λj=>ti h.box j,h.free⟩ ar ⟨h.apart.1.2.1,h.apart.2.1.2.1⟩ y1 (λaG=>iU _ _ _ _ _ _ aG) (h.value a.2.1.2 aO.2.2.1 aj a1)
 rw[<-Y]at q;refine q.mono ?_;rintro e w' ⟨rfl,X,az⟩;refine⟨_,rfl,?_⟩;rw[a2]at X az ⊢;cases f:rS d.b self (n+1) a.2.1.2 with
 | none=>
  have T:=X (by rw[f];rfl);refine⟨aD T _,by rw[F,f];rfl,λS r=>?_⟩;rw[F,f]at r;cases r
 | some t=>
  by_cases E:p.1.1=6;rotate_left
  ·have T:=X (by rw[f];simp[E]);refine⟨aD T _,by rw[F,f];simp[E],λS r=>?_⟩;rw[F,f]at r;simp[E]at r
  ·obtain⟨y,g,c,aA,x,C,ba,a8,Q,a0,A,s,ax,Z,aw⟩:=az (by rw[f];simp[E]);obtain⟨a5,_,bb⟩:=a3 y t f ba;have aP:aA.heap[db]?=_:=(A.block db h.lt λi=>h.apart.1.2.1 i).trans h.box;obtain⟨G,bd,be,R,bC⟩:=h.own;have bx:=A.size;have U:=(nM aP).2.1 (.slice (some ⟨g,0,none⟩) (sp.length+1) c);rw[<-ax]at U;have u:bk (λb=>b=db) aA x:=by rw[ax];exact bt _ _ _ _
   have B:bk (λb=>b=bg) x C:=by
    rw[Z];exact bk.trans (nB x bg (m*4) _ _ _ _) (aD ((am _ _).drew) _) λ_ _ e=>e
   have aQ:C.heap[db]?=_:=(B.block db (aC.1 U).1 G).trans U;have v:bk (λb=>b=db) C w':=by rw[aw];exact bt _ _ _ _
   have ai:=(nM aQ).2.2.2.1 (ab (d.next+1));rw[<-aw]at ai;have bu:=u.size;have bv:=B.size;have bw:=v.size;have ao:bk (kM db bg sv (.slice M sp.length N) lv) w w':=bk.trans (bk.trans (bk.trans (A.mono λi _ f=>ah (ah (ah (ag f)))) u λi _ f=>ag f) B λi _ f=>ah (ag f)) v λi _ f=>ag f;have z:∀i,i<w.heap.size->¬(Value.slice M sp.length N).ownBlock=some i->g≠i:=λi f aX e=>by
    rcases s with s|s
    ·rw[e]at s;exact aX s
    ·omega
   have ad:∀i,kM db bg sv (.slice (some ⟨g,0,none⟩) (sp.length+1) c) lv i->kM db bg sv (.slice M sp.length N) lv i\/w.heap.size<=i:=λi f=>by
    rcases f with f|f|f|f|f
    ·exact ag (ag f)
    ·exact ag (ah (ag f))
    ·exact ag (ah (ah (ag f)))
    ·have:g=i:=au f;subst this;rcases s with s|s
     ·exact ag (ah (ah (ah (ag s))))
     ·exact ah s
    ·exact ag (ah (ah (ah (ah f))))
   obtain⟨bf,bh,bi,bD⟩:=h.frame ao ad;refine⟨ao,by rw[F,f];simp[E],λS r=>?_⟩;rw[F,f]at r;have r:some {d with b:=d.b.set m (CY d.next),next:=d.next+1,spawns:=d.spawns++ [(d.next,a.2.2.1,t)]}=some S:=by simpa [E]using r
   obtain rfl:=au r;have ap:∀i,lv.ownBlock=some i->i<w.heap.size:=λi f=>by
    obtain⟨aH,V⟩:=dS h.lRow i f;exact(aC.1 V).1
   have av:∀i,sv.ownBlock=some i->i<w.heap.size:=λi f=>by
    obtain⟨aH,V⟩:=dS h.sRow i f;exact(aC.1 V).1
   have O:¬(Value.slice M sp.length N).ownBlock=some bg:=h.apart.2.1.2.1;have a9:bZ (Ke base db bg sv (.slice (some ⟨g,0,none⟩) (sp.length+1) c) lv) _ y:=Q.mono λi f=>by
    have:=h.lt;refine⟨by omega,λq=>?_⟩;rcases q with q|q|q|q|q
    ·omega
    ·omega
    ·have:=av i q;omega
    ·exact f.2 (au q).symm
    ·have:=ap i q;omega
   have aq:=MZ d.next D (by omega)
   -- the row of what is bound
   have H:∀j,x.cell? ⟨bg,j,none⟩=w.cell? ⟨bg,j,none⟩:=λj=>(u.cell j (by omega) (λe=>G e.symm)).trans (A.cell j R O);have J:∀j,w'.cell? ⟨bg,j,none⟩=C.cell? ⟨bg,j,none⟩:=λj=>v.cell j (by omega) (λe=>G e.symm);have I:∀j,C.cell? ⟨bg,j,none⟩=(cG x bg (m*4) (ab 3) (ab d.next) (ae ⟨#[]⟩) (.slice none 0 0)).cell? ⟨bg,j,none⟩:=λj=>by
    rw[Z,Fc]
   have aS:∀j,j<m*4\/m*4+4<=j->w'.cell? ⟨bg,j,none⟩=w.cell? ⟨bg,j,none⟩:=λj aU=>by
    rw[J,I,AT j aU];exact H j
   have P:=wJ (w:=x) (g:=bg) (o:=m*4) (ab 3) (ab d.next) (ae ⟨#[]⟩) (.slice none 0 0) ⟨(H _).trans y1.1,(H _).trans y1.2.1,(H _).trans y1.2.2.1,(H _).trans y1.2.2.2⟩;refine⟨l.set m (bJ 3 d.next D),bg,bc,sd,sp++ [(d.next,a.2.2.1,y)],sv,_,lv,⟨ai,⟨G,bd,be,by omega,by omega⟩,Kz h.bnd m aq.1,?_,λaa aF L=>?_,λj=>?_,?_,?_,?_,h.sIs,?_,bh,λbj K=>?_,⟨⟨h.apart.1.1,?_,h.apart.1.2.2⟩,⟨h.apart.2.1.1,?_,h.apart.2.1.2.2⟩,λi=>⟨λf=>⟨λe=>?_,((h.apart.2.2 i).1 f).2⟩,λf e=>?_⟩⟩,⟨by omega,by simp;omega,by show d.links.length<=k+1;omega,by show d.next+1=nx+((sp++ [(d.next,a.2.2.1,y)]).length:Nat);simp;omega,aL,aM⟩⟩,ad⟩
   ·rw[List.map_set,h.tells,aq.2]
   ·by_cases al:m=aa
    ·subst al;rw[List.getElem?_set_self (by omega)]at L;obtain rfl:=au L;have an:=kE D 3 d.next (by unfold dk;omega) (by unfold dk;omega) w'.heap.size w' (Ke base db bg sv (.slice (some ⟨g,0,none⟩) (sp.length+1) c) lv);refine⟨⟨?_,?_,?_,?_⟩,an.1,an.2⟩
     ·rw[J,I];exact P.1
     ·rw[J,I];exact P.2.1
     ·rw[J,I];exact P.2.2.1
     ·rw[J,I];exact P.2.2.2
    ·rw[List.getElem?_set_ne al]at L;exact⟨(h.row aa aF L).1.far λj bA bB=>aS j (by omega),bf aa aF L⟩
   ·have aK:w'.frozen? ⟨bg,j,none⟩=C.frozen? ⟨bg,j,none⟩:=by
      unfold World.frozen?;rw[v.block bg (by omega) (λe=>G e.symm)]
    have aJ:C.frozen? ⟨bg,j,none⟩=x.frozen? ⟨bg,j,none⟩:=by
     rw[Z,zU,sA]
    have aI:x.frozen? ⟨bg,j,none⟩=w.frozen? ⟨bg,j,none⟩:=by
     unfold World.frozen?;rw[u.block bg (by omega) (λe=>G e.symm),A.block bg R O]
    rw[aK,aJ,aI];exact h.free j
   ·refine aY (aY (aY (aY h.sRow A λi f W=>((h.apart.2.2 i).1 f).1 W) u λi f e=>h.apart.1.1 (by rw[f,e])) B λi f e=>h.apart.2.1.1 (by rw[f,e])) v λi f e=>h.apart.1.1 (by rw[f,e])
   ·have:=aY (aY (aY a0 u λi f e=>z db h.lt h.apart.1.2.1 (by
      have:g=i:=au f
      rw[this,e])) B λi f e=>z bg R O (by
      have:g=i:=au f
      rw[this,e])) v λi f e=>z db h.lt h.apart.1.2.1 (by
      have:g=i:=au f
      rw[this,e])
    simpa using this
   ·refine aY (aY (aY (aY h.lRow A λi f W=>(h.apart.2.2 i).2 W f) u λi f e=>h.apart.1.2.2 (by rw[f,e])) B λi f e=>h.apart.2.1.2.2 (by rw[f,e])) v λi f e=>h.apart.1.2.2 (by rw[f,e])
   ·simp[h.pIs,bb]
   ·rcases da.1 K with K|K
    ·exact bi bj K
    ·obtain rfl:=dD.1 K;have bs:=h.lt;have a6:=a8.kee u (Q.mono λi f e=>by omega);have a7:=a6.kee B (Q.mono λi f e=>by omega);exact⟨a5,a7.kee v (Q.mono λi f e=>by omega),a9⟩
   ·exact λe=>z db h.lt h.apart.1.2.1 (au e)
   ·exact λe=>z bg R O (au e)
   ·exact z i (av i f) (λy=>((h.apart.2.2 i).1 f).1 y) (au e)
   ·have aT:g=i:=au f;exact z i (ap i e) (λy=>(h.apart.2.2 i).2 y e) aT
end
def Mj{n:Nat}(a:Ac (n+1)):Prop:=nh (n+1) a=true/\(a.1=1\/a.1=3->bq (n+1) a.2.1.1=0)/\(a.1=1\/a.1=2->bq (n+1) a.2.1.2=0)
theorem pA(self:Int){n:Nat}:(p q:List (Ac (n+1)))->(d:Dg)->py self (p++q) d=(py self p d).bind (py self q)
 | [],_,_=>rfl
 | a::p,q,d=>by
  simp only[fG,py];cases qu self a d with
  | none=>rfl
  | some b=>exact pA self p q b
theorem Il(self:Int){n:Nat}{l:List (Ac (n+1))}{i:Nat}{a:Ac (n+1)}(b:l[i]?=some a)(d:Dg):py self (l.take (i+1)) d=(py self (l.take i) d).bind (qu self a):=by
 rw[dx,b,pA];congr 1;funext x;show py self [a] x=qu self a x;simp only[py];cases qu self a x<;>rfl
theorem Ij(self:Int){n:Nat}{l:List (Ac (n+1))}{i:Nat}{d:Dg}(a:py self (l.take i) d=none):py self l d=none:=by
 rw[<-ji i l,pA,a];rfl
section
variable {base db:Nat} {self:Int} {n D k:Nat} {nx:Int} {d:Dg} {w:World} {l:List (Tm (D+1))} {bg bc:Nat} {sd:List (Int×Tm (D+1+n+1))} {sp:List (Int×ByteArray×Tm (D+1+n+1))} {sv pv lv:Value}
theorem xw.from{a:Ac (n+1)}{S:Nat->Prop}{W w':World}{t:Bool}(b:xw base db self n D k nx d a S W t w')(c:ai w W):xw base db self n D k nx d a S w t w':=⟨(aD c S).trans b.1 λ_ _ e=>e,b.2.1,λh l=>by
 obtain⟨o,g,f,s,u,v,r,p,i,j⟩:=b.2.2 h l;refine⟨o,g,f,s,u,v,r,p,i,λq m=>?_⟩;rcases j q m with e|e
 ·exact ag e
 ·have:=c.size
  exact ah (by omega)⟩
theorem ic.later{B:Nat}{a:Ac (n+1)}{W:World}(b:ic (n+1) B w a)(c:Below B w W):ic (n+1) B W a:=⟨b.1,b.2.1.below c,b.2.2.1.below c,b.2.2.2⟩
theorem dT.stop(a:dT base db self n D k nx d w l bg bc sd sp sv pv lv):Do base db self n D (k+1) nx {d with stops:=true} (kM db bg sv pv lv) w (w.setCell ⟨db,6,none⟩ (.bool true))/\bk (kM db bg sv pv lv) w (w.setCell ⟨db,6,none⟩ (.bool true)):=by
 have e:=bt w db 6 (.bool true);obtain⟨t,u,v,C⟩:=a.frame (w':=w.setCell ⟨db,6,none⟩ (.bool true)) (e.mono λf _ b=>ag b) λf c=>ag c;obtain⟨g,r,s,m,B⟩:=a.own;have A:=e.size;obtain⟨x,y,z,p⟩:=a.few;refine⟨⟨l,bg,bc,sd,sp,sv,pv,lv,⟨(nM a.box).2.2.2.2 _,⟨g,r,s,by omega,by omega⟩,a.bnd,a.tells,λj o i=>⟨(a.row j o i).1.kee e m (λb=>g b.symm),t j o i⟩,λq=>?_,aY a.sRow e λf c b=>a.apart.1.1 (by rw[c,b]),aY a.pRow e λf c b=>a.apart.1.2.1 (by rw[c,b]),aY a.lRow e λf c b=>a.apart.1.2.2 (by rw[c,b]),a.sIs,a.pIs,u,v,a.apart,⟨by omega,by omega,by show d.links.length<=k+1;omega,p⟩⟩,λf c=>ag c⟩,e.mono λf _ b=>ag b⟩;have h:=a.free q;unfold World.frozen? at h ⊢;rw[e.block bg m (λb=>g b.symm)];exact h
theorem dT.one(c:dT base db self n D k nx d w l bg bc sd sp sv pv lv)(a:Ac (n+1))(m:ic (n+1) base w a)(A:Mj a)(p:1<=self/\self<=99)(y:k<=7):ak 138 #[.pointer (some ⟨db,0,none⟩),Nr a] w λe w'=>∃t,e=.returned (.bool t)/\Hid (xw base db self n D k nx d a (kM db bg sv pv lv) w t w'):=by
 obtain⟨f,r,s⟩:=A;have o:=c.own.2.2.2.2;refine I9 a.1 a.2.1.1.1.1 a.2.1.1.1.2.1 a.2.1.1.1.2.2 a.2.1.1.2.1.1 a.2.1.1.2.2.length a.2.1.1.2.1.2 a.2.1.2.1.1 a.2.1.2.1.2.1 a.2.1.2.1.2.2 a.2.1.2.2.1.1 a.2.1.2.2.2.length a.2.1.2.2.1.2 a.2.2.1 a.2.2.2 db w (xw base db self n D k nx d a (kM db bg sv pv lv) w) c.lt ⟨d.stops,af c.box 6,ti c.box 6⟩ ?_ ?_ ?_ ?_
 ·intro i h b;refine((c.later b).send a (m.later (b.mono o)) (r (ag i)) (s (ag i)) i p (by omega)).mono ?_;rintro e w' ⟨t,rfl,g⟩;exact⟨t,rfl,g.out.from b⟩
 ·intro j h b;have x:dE a.2.2.1=true/\0<=a.2.2.2/\a.2.2.2<4:=by
   have z:¬a.1=1:=by omega
   unfold nh at f;rw[if_neg z,if_pos j]at f;simp only[aB,bX]at f;exact⟨f.1.1.2,f.1.2,f.2⟩
  refine((c.later b).spawn a (m.later (b.mono o)) (s (ah j)) j x.1 x.2 p y).mono ?_;rintro e w' ⟨t,rfl,g⟩;exact⟨t,rfl,g.out.from b⟩
 ·intro q h b;refine((c.later b).link a (m.later (b.mono o)) (r (ah q)) q p (by omega)).mono ?_;rintro e w' ⟨t,rfl,g⟩;exact⟨t,rfl,g.out.from b⟩
 ·intro B C E h b;have u:qu self a d=some {d with stops:=true}:=by
   unfold qu;rw[if_neg B,if_neg C,if_neg E]
  obtain⟨F,G⟩:=(c.later b).stop;refine xw.from ⟨G,by rw[u];rfl,λH v=>?_⟩ b;rw[u]at v;obtain rfl:=au v;exact F
theorem dT.all(H:dT base db self n D 0 nx d w l bg bc sd sp sv pv lv)(ac:List (Ac (n+1)))(L:Option Addr)(U:Nat)(O:pr base w 11 (fT (n+1)) (ic (n+1) base w) L ac)(ad:∀a∈ac,Mj a)(X:ac.length<=8)(ae:1<=self/\self<=99):ak 102 #[.pointer (some ⟨db,0,none⟩),.slice L ac.length U] w λe w'=>∃t,e=.returned (.bool t)/\Hid (bk (kM db bg sv pv lv) w w'/\t=(py self ac d).isSome/\∀g,py self ac d=some g->Do base db self n D 8 nx g (kM db bg sv pv lv) w w'):=by
 have ab:=H.own.2.2.2.2;have R:∀{c:World},bk (kM db bg sv pv lv) w c->Below base w c:=λj=>j.below ab λb Y k=>by
  have:=H.high b k;omega
 refine(Hg ac L ac.length U db w (λi c=>bk (kM db bg sv pv lv) w c/\∃g,py self (ac.take i) d=some g/\Do base db self n D i nx g (kM db bg sv pv lv) w c) (λc=>bk (kM db bg sv pv lv) w c/\py self ac d=none) (by omega) rfl ?_ ?_ ?_ ?_).mono ?_
 ·rintro i a c h ⟨j,_⟩;rcases O with e|⟨b,o,e,S,J⟩
  ·rw[e]at h;simp at h
  ·exact⟨b,o,e,λT aw aa=>((R j).cell (p:=⟨b,o+i*11+T,none⟩) S).trans ((J i a h).1 T aw aa)⟩
 ·rintro i c ax ⟨j,g,I,z,x,v,C,E,F,B,A,q,m⟩ N;exact⟨j.trans (aD N (λ_=>False)) λ_ _ e=>e.elim,g,I,z,x,v,C,E,F,B,A,q.later N,m⟩
 ·rintro i a c h ⟨j,g,I,z,x,v,C,E,F,B,A,q,m⟩;have ay:=(aM.1 h).1;have Z:ic (n+1) base c a:=by
   rcases O with e|⟨b,o,e,S,J⟩
   ·rw[e]at h;simp at h
   ·exact((J i a h).2).later (R j)
  refine(q.one a Z (ad a (aG h)) ae (by omega)).mono ?_;rintro e w' ⟨t,rfl,u⟩;obtain⟨s,f,M⟩:=u.out;have y:=Il self h d;rw[I]at y;simp only[dn]at y;have Q:bk (kM db bg sv pv lv) w w':=j.trans s λb Y k=>by
   rcases m b k with e|e
   ·exact e
   ·omega
  refine⟨t,rfl,λai=>⟨Q,?_⟩,λaf=>⟨Q,?_⟩⟩
  ·rw[ai]at f;obtain⟨G,r⟩:=fJ.1 f.symm;obtain⟨an,W,V,aq,ar,av,ap,ao,al,am⟩:=M G r;refine⟨G,by rw[y,r],an,W,V,aq,ar,av,ap,ao,al,λk K=>?_⟩;rcases am k K with e|e
   ·exact m k e
   ·have:=j.size;exact ah (by omega)
  ·rw[af]at f;refine Ij self (i:=i+1) ?_;rw[y];exact ke.1 (by rw[<-kh,<-f];rfl)
 ·exact⟨bk.refl _ _,d,rfl,l,bg,bc,sd,sp,sv,pv,lv,H,λk K=>ag K⟩
 ·rintro e w' ⟨t,rfl,u⟩;refine⟨t,rfl,?_⟩;cases t
  ·obtain⟨s,f⟩:=u.out.2 rfl;refine⟨s,by rw[f];rfl,λg P=>?_⟩;rw[f]at P;cases P
  ·obtain⟨s,g,f,M⟩:=u.out.1 rfl;rw[bw (aj _)]at f;refine⟨s,by rw[f];rfl,λG r=>?_⟩;rw[f]at r;obtain rfl:=au r;obtain⟨z,x,v,C,E,F,B,A,q,m⟩:=M;exact⟨z,x,v,C,E,F,B,A,q.more X,m⟩
end
theorem El(N:Nat):bq (N+1) (bJ 1 0 N)=0/\aH (N+1) (bJ 1 0 N)=true/\sz (N+1) (bJ 1 0 N)=0:=by
 have c:bT (N+1) (bJ 1 0 N)=true:=by
  rw[<-aJ];intro a b;have:a=((1,0,.empty),(none,0,0)):=by simpa [av,bJ]using b
  subst this;simp[cq,pY]
 exact⟨bz.2 ⟨c,by simp[fm,bJ],by simp[sz,bJ]⟩,by simp[aH,bJ],by simp[sz,bJ]⟩
theorem AH{ws:List Wd}{nm:List ByteArray}{N:Nat}:dz ws nm (N+1) (bJ 1 0 N) (1,0):=⟨λa=>by simp[bJ]at a,λa=>by simp[bJ]at a,λ_ _=>rfl⟩
theorem jz.numb{N:Nat}{ws:List Wd}{nm:List ByteArray}{room:Int}{r:Wd}{h:List Wd}{s:Tm (N+1)}{g:List (Tm (N+1))}(i:jz (N+1) ws nm room (r::h) (s::g)):jz (N+1) ws nm room ((1,0)::h) (bJ 1 0 N::g):=by
 obtain⟨e,f,j,k,l,m,n,o⟩:=i;obtain⟨p,q,u⟩:=El N;refine⟨⟨by simpa using e.1,λc t d b a=>?_⟩,?_,λd a=>?_,?_,l,m,n,o⟩
 ·cases c with
  | zero=>
   simp only[cI,iM]at b a;subst b a;exact AH
  | succ c=>exact e.2 (c+1) t d (by simpa using b) (by simpa using a)
 ·simp only[bv]at f ⊢;rw[lO (by decide),mi];exact(eL.1 f).2.1
 ·rcases cB.1 a with rfl|a
  ·exact⟨p,q⟩
  ·exact j d (bH _ a)
 ·simp only[aI,bC]at k ⊢;have:=(eH (N+1) s).1;omega
theorem jz.turned{N:Nat}{ws:List Wd}{nm:List ByteArray}{room:Int}{C v:Wd}{vs:List Wd}{s x:Tm (N+1)}{ms:List (Tm (N+1))}(n:jz (N+1) ws nm room (C::vs++ [v]) (s::ms++ [x]))(f:vs.length=ms.length):jz (N+1) ws nm room (v::vs) (x::ms):=by
 obtain⟨g,h,u,w,y,z,A,B⟩:=n;refine⟨⟨by simp[f],λd D e c a=>?_⟩,?_,λe a=>u e ?_,?_,y,z,A,B⟩
 ·cases d with
  | zero=>
   simp only[cI,iM]at c a;subst c a;exact g.2 (vs.length+1) v x (by simp) (by simp[f])
  | succ d=>
   simp only[cV]at c a;have o:=(aM.1 c).1;have p:=(aM.1 a).1;exact g.2 (d+1) D e (by rw[fG,cV,dg o];exact c) (by rw[fG,cV,dg p];exact a)
 ·simp only[fG,bv,jW,List.flatMap_nil,ed]at h ⊢;obtain⟨_,t,_⟩:=eL.1 h;obtain⟨j,k,l⟩:=eL.1 t;exact eL.2 ⟨k,j,λi q b r m=>l b r i q m.symm⟩
 ·rcases cB.1 a with rfl|a
  ·simp
  ·simp[a]
 ·simp only[fG,aI,fH,bC,List.sum_append,bR,jh]at w ⊢;have:=(eH (N+1) s).1;omega
theorem qP(w:World)(c:Nat)(a b:Int):bO (λq=>q=c) w (tx w c a b):=(bi w c 5 (ab a)).trans (bi _ c 6 (ab b)) λ_ _ e=>e
theorem JA(w:World)(c:Nat)(a b:Int):(tx w c a b).heap.size=w.heap.size:=by simp[tx,World.setCell]
theorem gT{S:Nat->Prop}{w w':World}(a:bO S w w'):bk S w w':=⟨a.os,a.tape,a.output,a.size,a.block⟩
theorem iV{S:Nat->Prop}{w w':World}(a:bk S w w'):bO S w w':=⟨a.os,a.tape,a.output,a.size,a.block⟩
section
variable {base pb:Nat} {name:ByteArray} {room:Int} {N:Nat} {s:Tm (N+1)} {ms:List (Tm (N+1))} {xs:List (Wd×Tm (N+1))} {nk:Nat} {M:Nat->Prop} {w:World} {ws:List Wd} {nm:List ByteArray} {sv:Wd} {vs:List Wd} {ma:Option Addr} {mc:Nat} {Mh:Nat->Prop}
theorem jl.keptBox{v:Wd}(h:jl Mh ma vs mc w)(i:Mh pb):jl Mh ma vs mc (tx w pb v.1 v.2):=by
 rcases h with a|⟨d,j,e,f,b,c,g⟩
 ·exact ag a
 ·exact ah ⟨d,j,e,f,b,((qP w pb v.1 v.2).block d (aC.1 c).1 λa=>b (by rw[a];exact i)).trans c,g⟩
theorem dy.word{mv:Value}{v:Wd}(a:dy base (PL pb name sv mv) room ws nm M w):dy base (PL pb name v mv) room ws nm M (tx w pb v.1 v.2):=a.turn (qP w pb v.1 v.2) λtv lv mp b=>by
 unfold tx World.setCell;simp[bG,b]
theorem cv.numb(a:cv base pb name room (N+1) s ms [] nk M w ws nm sv vs ma mc Mh):cv base pb name room (N+1) (bJ 1 0 N) ms [] nk M (tx w pb 1 0) ws nm (1,0) vs ma mc Mh/\bO M w (tx w pb 1 0):=by
 obtain⟨d,f⟩:=a.box0;have c:=a.has;simp only[bR,ed]at c;refine⟨⟨a.heap.word (v:=(1,0)),a.mail.keptBox (v:=(1,0)) d,?_,a.len,a.names,a.inM,a.mailM⟩,(qP w pb 1 0).mono λb e=>?_⟩
 ·simp only[bR,ed];exact c.numb
 ·rw[e];exact a.inM pb d
theorem cv.turned{v:Wd}{x:Tm (N+1)}(a:cv base pb name room (N+1) s ms [(v,x)] nk M w ws nm sv vs ma mc Mh):cv base pb name room (N+1) x ms [] nk M (tx w pb v.1 v.2) ws nm v vs ma mc Mh/\bO M w (tx w pb v.1 v.2):=by
 obtain⟨d,f⟩:=a.box0;have c:=a.has;simp only[aI,bR]at c;refine⟨⟨a.heap.word,a.mail.keptBox d,?_,a.len,a.names,a.inM,a.mailM⟩,(qP w pb v.1 v.2).mono λb e=>?_⟩
 ·simp only[bR,ed];exact c.turned a.len
 ·rw[e];exact a.inM pb d
theorem cv.cells56(e:cv base pb name room (N+1) s ms xs nk M w ws nm sv vs ma mc Mh):(∃a,w.cell? ⟨pb,5,none⟩=some (ab a))/\(∃a,w.cell? ⟨pb,6,none⟩=some (ab a))/\∀j,w.frozen? ⟨pb,j,none⟩=false:=by
 obtain⟨i,g,h,f,_⟩:=e.heap.box;obtain⟨_,b,c,_,d,_⟩:=PL.cells f;exact⟨⟨_,b⟩,⟨_,c⟩,d⟩
def Nv(base pb:Nat)(name:ByteArray)(room:Int)(N:Nat)(s:Tm (N+1))(ms:List (Tm (N+1)))(x:Tm (N+1))(nk:Nat)(M:Nat->Prop)(w:World)(t:Bool)(w':World):Prop:=
 t=decide ((ms.map (sz (N+1))).sum+sz (N+1) x<=room)/\bO M w w'/\∃a i f g h d e c,cv base pb name room (N+1) a ms [] (nk+402) (λb=>M b\/w.heap.size<=b) w' i f g h d e c/\(t=true->a=x)/\(t=false->aw (N+1) a (N+1) s=true)
theorem wK{x:Tm (N+1)}{ms:List (Tm (N+1))}(a:bq (N+1) x=0)(b:aH (N+1) x=true):rJ (N+1) x room (bJ 1 0 N::ms)=if (ms.map (sz (N+1))).sum+sz (N+1) x<=room then 0 else 6:=by
 unfold rJ;rw[if_neg (by simp[a]),if_neg (by simp[b])];simp only[aI,bC,(El N).2.2,Int.zero_add]
theorem cv.become(k:cv base pb name room (N+1) s ms [] nk M w ws nm sv vs ma mc Mh)(x:Tm (N+1))(aD:In w.heap.size w (N+1) x)(L:bZ (λb=>¬M b) (N+1) x)(E:bq (N+1) x=0)(aj:aH (N+1) x=true)(m:∀b,M b->b<w.heap.size)(a5:nk<=48000)(B:ms.length<=999)(a4:base<=w.heap.size):ak 104 #[.pointer (some ⟨pb,0,none⟩),.agg #[ab x.1.1,ab x.1.2.1,ae x.1.2.2,.slice x.2.1.1 x.2.2.length x.2.1.2]] w λe w'=>∃t,e=.returned (.bool t)/\Hid (Nv base pb name room N s ms x nk M w t w'):=by
 obtain⟨aq,ar⟩:=k.box0;have a3:M pb:=k.inM pb aq;have u:=k.front;have P:=u.2.2.1 s (by simp);have aA:(ms.map (sz (N+1))).sum+sz (N+1) s<=room:=by
  have ai:=u.2.2.2.1;have a2:=u.2.2.2.2.1;simp only[aI,bC]at ai;omega
 refine zu x.1.1 x.1.2.1 x.1.2.2 x.2.1.1 x.2.2.length x.2.1.2 pb w (λT U V sa sl sc f=>∃y0:Tm (N+1),(T=y0.1.1/\U=y0.1.2.1/\V=y0.1.2.2/\sa=y0.2.1.1/\sl=y0.2.2.length/\sc=y0.2.1.2)/\In f.heap.size f (N+1) y0/\bZ (λa=>w.heap.size<=a) (N+1) y0/\aw (N+1) y0 (N+1) s=true) (λ_ _ _ _=>True) (Nv base pb name room N s ms x nk M w) ?_ ?_ ?_
 ·intro f d;refine((k.later d).state (by omega)).mono ?_;rintro e w' ⟨aZ,rfl,o⟩;exact⟨_,_,_,_,_,_,rfl,o.out.1,aZ,⟨rfl,rfl,rfl,rfl,rfl,rfl⟩,o.out.2.1,o.out.2.2.1.mono λa O=>by have:=d.size;omega,o.out.2.2.2⟩
 ·intro f d;obtain⟨af,b,c⟩:=(k.later d).cells56;exact⟨af,b,c,ar⟩
 ·rintro T U V sa sl sc a1 j aR aS ⟨y0,⟨rfl,rfl,rfl,rfl,rfl,rfl⟩,Q,R,q⟩ D r a6 a7 p;have a9:=r.size;obtain⟨an,I⟩:=(k.later r).numb;have bb:=JA j pb 1 0;have H:bO M w (tx j pb 1 0):=(aV r M).trans I λ_ _ e=>e;have aE:In (tx j pb 1 0).heap.size (tx j pb 1 0) (N+1) x:=aD.kee (gT H) L;have au:=an.put x aE L (eR E) (λb h=>by have:=m b h;omega) (by omega) B (by omega);refine au.mono ?_;rintro e w' ⟨W,rfl,Y⟩;obtain⟨aX,aP,bd,aU,aL,aN,aa,i,n⟩:=Y.out;have F:=wK (room:=room) (ms:=ms) E aj;have K:bO M w w':=H.trans n λ_ _ e=>e;have ba:=n.size;refine⟨W,_,rfl,⟨?_,?_,i.cells56.1,i.cells56.2.1,i.cells56.2.2⟩,trivial,?_,?_⟩
  ·exact(n.block aR (aC.1 p.1).1 λa=>by have:=m _ a;omega).trans p.1
  ·exact(n.block aS (aC.1 p.2.1).1 λa=>by have:=m _ a;omega).trans p.2.1
  ·intro g f d;rw[if_pos g]at i;obtain⟨z,v⟩:=(i.later d).turned;rw[F]at g;have al:(ms.map (sz (N+1))).sum+sz (N+1) x<=room:=by
    by_cases a:(ms.map (sz (N+1))).sum+sz (N+1) x<=room
    ·exact a
    ·rw[if_neg a]at g;cases g
   refine⟨by simp[al],(K.trans (aV d M) λ_ _ e=>e).trans v λb h a=>?_,x,aX,aP,W,aU,aL,aN,aa,z.mono (λb a=>?_) (by omega),λ_=>rfl,λa=>by cases a⟩
   ·rcases a with a|a
    ·exact a
    ·omega
   ·rcases a with a|a
    ·exact ag a
    ·exact ah (by omega)
  ·intro g f aT d a8 av;rw[if_neg g]at i;have am:¬(ms.map (sz (N+1))).sum+sz (N+1) x<=room:=λa=>g (by rw[F,if_pos a]);have ap:=(i.inside.later d);have az:=d.size;have aK:=In.offB R Q;have ay:=D.size;have A:bq (N+1) y0=0/\aH (N+1) y0=true:=⟨(bL q).trans P.1,(cr _ _ _ _ q).trans P.2⟩;have aF:In j.heap.size j (N+1) y0:=(Q.below D).mono ay;have S:bZ (λb=>¬M b) (N+1) y0:=R.mono λa O l=>by have:=m a l;omega
   have aG:In w'.heap.size w' (N+1) y0:=(aF.kee (gT I) S).kee (gT n) S;have aJ:In f.heap.size f (N+1) y0:=(aG.below d).mono az;have G:=wK (room:=room) (ms:=ms) A.1 A.2;have aB:=kY _ _ _ _ q;rw[if_pos (by rw[aB];exact aA)]at G;refine(ap.put y0 aJ (aK.mono λa O l=>?_) (eR A.1) (λb h=>by have:=h.2;omega) (by omega) B (by omega)).mono ?_
   ·rcases l.1 with l|l
    ·have:=m a l;omega
    ·omega
   ·rintro e bf ⟨X,rfl,Z⟩;obtain⟨aY,aQ,be,aW,aM,aO,ad,y,J⟩:=Z.out;rw[if_pos G]at y;refine⟨X,_,rfl,λbc ao=>(J.block aT av λa=>by have:=a.2;omega).trans ao,y.cells56,λa0 C=>?_⟩;have ax:=y.kept (iV C) λb a _ e=>by
     rcases a with a|a
     ·have:=a.2;omega
     ·omega
    obtain⟨z,v⟩:=ax.turned;refine⟨by simp[am],?_,y0,aY,aQ,X,aW,aM,aO,ad,z.mono (λb a=>?_) (by omega),λa=>(by cases a),λ_=>q⟩
    ·refine((((K.trans (aV d M) λ_ _ e=>e).trans J λb h a=>?_).trans (iV C) λb h a=>?_)).trans v λb h a=>?_
     ·rcases a.1 with a|a
      ·exact a
      ·omega
     ·omega
     ·rcases a with a|a
      ·rcases a.1 with a|a
       ·exact a
       ·omega
      ·omega
    ·rcases a with a|a
     ·rcases a.1 with a|a
      ·exact ag a
      ·exact ah (by omega)
     ·exact ah (by omega)
end
theorem fx{n:Nat}{x:Tm (n+1)}(g:bq (n+1) x=0){y:Tm n}(a:y∈x.2.2):bq n y=0:=by
 obtain⟨d,i,e⟩:=bz.1 g;have c:aA ⟨n+1,x⟩:=aJ.2 d;have j:=nw c a;have f:=eq (bu n x) (c (bu n x) (by simp[av,bu]));have b:x.1.1=4:=by
  by_cases b:x.1.1=4
  ·exact b
  ·have:x.2.2=[]:=bB (f.2.2.2.2 b);rw[this]at a;cases a
 have h:=tq (λy=>1+sz n y) (λy=>by have:=(eH n y).1;omega) x.2.2 y a;simp only[sz,if_pos b]at e
 exact bz.2 ⟨aJ.1 (aR n x y c a),by omega,by
  have k:1+sz n y<=(x.2.2.map λy=>1+sz n y).sum:=h.1
  omega⟩
theorem tQ{n:Nat}{x:Tm (n+1)}(a:bq (n+1) x=0)(i:Nat){y:Tm n}(b:x.2.2[i]?=some y):bq n y=0:=fx a (aG b)
theorem pU{n N:Nat}(c:n<=N)(x:Tm (n+1))(a:bq (N+1) (aN (N+1) (n+1) x)=0):bq (n+1) x=0:=by
 have e:aA ⟨n+1,x⟩:=λb d=>(aJ.2 (bz.1 a).1) b (by rw[mJ N n c x];exact d);rw[<-bL (fk (N+1) (n+1) (by omega) x e)];exact a
def pj{n:Nat}(c:Cl (n+1)):Prop:=bq (n+1) c.1.1=0/\bq (n+1) c.1.2.1=0/\bq (n+1) c.1.2.2=0/\c.2.2.length<=8/\∀a∈c.2.2,Mj a
theorem Ep{n:Nat}{p:List (Bh (n+1))}(d:nn n p=0):jP (n+1) p=true/\∀b∈p,b.2.2.length<=6/\∀c∈b.2.2,pj c:=by
 unfold nn at d;cases e:jP (n+1) p with
 | false=>rw[e]at d;cases d
 | true=>
  rw[e,if_pos rfl]at d;refine⟨rfl,λb l=>?_⟩;unfold jP at e;simp only[aB,b9]at e;have h:=e.2 b l;unfold vt at h;simp only[aB,b9,bX]at h;refine⟨by omega,λc m=>?_⟩;have i:=h.2 c m;unfold sO at i;simp only[aB,b9,bX]at i;have o:bq (n+5) (dC n b)=0:=fx d (by simp only[bW,cU];exact bH _ (j0 l));have f:bq (n+4) (du n c)=0:=fx o (by simp only[dC,cU];exact bH _ (bH _ (j0 m)));have s:bq (n+3) (cU (n+2) (c.2.2.map (bY n)))=0:=tQ f 3 rfl;refine⟨pU (N:=n+2) (by omega) _ (tQ f 1 rfl),pU (N:=n+2) (by omega) _ (tQ f 2 rfl),pU (N:=n+2) (by omega) _ (tQ f 4 rfl),by omega,λj k=>?_⟩;have g:bq (n+2) (bY n j)=0:=fx s (by simp only[cU];exact j0 k);refine⟨i.2 j k,λr=>?_,λq=>?_⟩
  ·rcases r with a|a
   ·exact fx g (by simp[bY,a,cU])
   ·exact fx g (by simp[bY,a,cU])
  ·rcases q with a|a
   ·exact fx g (by simp[bY,a,cU])
   ·exact fx g (by simp[bY,a,cU])
section
variable {base db:Nat} {self:Int} {n D k:Nat} {nx:Int} {d:Dg} {w:World} {l:List (Tm (D+1))} {bg bc:Nat} {sd:List (Int×Tm (D+1+n+1))} {sp:List (Int×ByteArray×Tm (D+1+n+1))} {sv pv lv:Value}
theorem dT.kept(a:dT base db self n D k nx d w l bg bc sd sp sv pv lv){S:Nat->Prop}{w':World}(i:bk S w w')(m:∀b,base<=b->b<w.heap.size->¬S b):dT base db self n D k nx d w' l bg bc sd sp sv pv lv:=by
 have Q:=i.size;obtain⟨L,B,v,p,R⟩:=a.own;have s:∀{g:Nat}{y:Tm g},In w.heap.size w g y->bZ (Ke base db bg sv pv lv) g y->In w'.heap.size w' g y:=λG H=>G.kee (i.mono (T:=λb=>S b/\b<w.heap.size) λb E f=>⟨f,E⟩) (H.mono λf h (e:S f/\f<w.heap.size)=>m f h.1 e.2 e.1);have u:∀{q:TypeId}{e g:Nat}{x:Value}{z:List Value},w.ownsRow base q e x g z->w'.ownsRow base q e x g z:=λ{q e g x z} t=>aY t i λf h o=>by
  obtain⟨N,F⟩:=dS t f h;refine m f ?_ (aC.1 F).1 o;rcases t.2 with⟨r,_⟩|⟨C,cap,O,r,P,_⟩
  ·rw[r]at h;cases h
  ·rw[r]at h;have:C=f:=au h;omega
 refine⟨(i.block db a.lt (m db B a.lt)).trans a.box,⟨L,B,v,by omega,by omega⟩,a.bnd,a.tells,λJ M I=>?_,λK=>?_,u a.sRow,u a.pRow,u a.lRow,a.sIs,a.pIs,λe o=>?_,λe o=>?_,a.apart,a.few⟩
 ·obtain⟨j,b,c⟩:=a.row J M I;exact⟨j.kee i p (m bg v p),s b c,c⟩
 ·have A:=a.free K;unfold World.frozen? at A ⊢;rw[i.block bg p (m bg v p)];exact A
 ·obtain⟨j,b,c⟩:=a.sIn e o;exact⟨j,s b c,c⟩
 ·obtain⟨j,b,c⟩:=a.pIn e o;exact⟨j,s b c,c⟩
theorem dT.low(b:dT base db self n D k nx d w l bg bc sd sp sv pv lv):∀q,kM db bg sv pv lv q->q<w.heap.size:=by
 have c:∀{f:TypeId}{i g q:Nat}{e:Value}{h:List Value},w.ownsRow base f i e g h->e.ownBlock=some q->q<w.heap.size:=λ{f i g q e h} m a=>by
  obtain⟨o,j⟩:=dS m q a;exact(aC.1 j).1
 intro q a;rcases a with rfl|rfl|a|a|a
 ·exact b.lt
 ·exact b.own.2.2.2.1
 ·exact c b.sRow a
 ·exact c b.pRow a
 ·exact c b.lRow a
def NC(u t:Nat)(name:ByteArray)(room:Int)(s:Tc)(ms:List Tc)(q:Nat)(M:Nat->Prop)(base db:Nat)(self:Int)(n D:Nat)(nx:Int)(c:Cl (n+1))(b:List Tc)(S:Nat->Prop)(w:World)(f:Int)(w':World):Prop:=
 f=(eY room self nx (cn 13 s) (cn 13 s) (ms.map (cn 13)) c b).fate/\bk (λa=>M a\/S a) w w'/\(∃j z r e y o p k,cv u t name room 13 j ms [] (q+402) (λa=>M a\/w.heap.size<=a) w' z r e y o p k/\cn 13 j=(eY room self nx (cn 13 s) (cn 13 s) (ms.map (cn 13)) c b).state)/\
  ((f=0\/f=1)->∃d m g l v x e i h,dT base db self n D 8 nx d w' m g l v x e i h/\d.sends=(eY room self nx (cn 13 s) (cn 13 s) (ms.map (cn 13)) c b).sends/\d.spawns=(eY room self nx (cn 13 s) (cn 13 s) (ms.map (cn 13)) c b).spawns/\d.links=(eY room self nx (cn 13 s) (cn 13 s) (ms.map (cn 13)) c b).links/\∀a,kM db g e i h a->¬(M a\/w'.heap.size<=a))
theorem Nb{ms:List Tc}(a:∀y∈ms,bq 13 y=0):((ms.map (cn 13)).map (sz 13)).sum=(ms.map (sz 13)).sum:=by
 rw[fI];congr 1;exact jf λy b=>DT (a y b)
theorem Cj{Q I:Nat}{name:ByteArray}{room:Int}{s:Tc}{ms:List Tc}{P:Nat}{M:Nat->Prop}{ws:List Wd}{nm:List ByteArray}{aq:Wd}{vs:List Wd}{ma:Option Addr}{an:Nat}{Mh:Nat->Prop}{b:List Tc}(a2:cv Q I name room 13 s ms [] P M w ws nm aq vs ma an Mh)(T:dT base db self n D 0 nx d w l bg bc sd sp sv pv lv)(aE:d=⟨b,nx,[],[],[],false⟩)(c:Cl (n+1))(aX:gL (n+1) base w c)(bn:pj c)(a3:1<=self/\self<=99)(L:∀q,M q->q<base)(bN:Q<=base)(bm:P<=48000)(bh:ms.length<=999):ak 72 #[.pointer (some ⟨I,0,none⟩),.agg (eO (n+1) c).toArray,.pointer (some ⟨db,0,none⟩)] w λe w'=>∃f,e=.returned (ab f)/\NC Q I name room s ms P M base db self n D nx c b (kM db bg sv pv lv) w f w':=by
 obtain⟨bK,bM,aU,bb,bd⟩:=bn;have aI:=T.own.2.2.2.2;have bj:∀{h:World},bk (kM db bg sv pv lv) w h->Below base w h:=λm=>m.below aI λb E q=>by
  have:=T.high b q;omega
 have aK:∀{h:World},bk (kM db bg sv pv lv) w h->cv Q I name room 13 s ms [] P M h ws nm aq vs ma an Mh:=λm=>a2.kept (N:=12) (iV m) λb E _ q=>by
  have:=L b E;have:=T.high b q;omega
 have aF:∀{h:World},bk (kM db bg sv pv lv) w h->bk (λq=>M q\/kM db bg sv pv lv q) w h:=λm=>m.mono λq _ a=>ah a;have bl:∀g∈ms,bq 13 g=0:=λg bu=>(a2.front.2.2.1 g (bH _ bu)).1
 refine Ab (D+1+n) c.1.1.1.1 c.1.1.1.2.1 c.1.1.1.2.2 c.1.1.2.1.1 c.1.1.2.2.length c.1.1.2.1.2 c.1.2.1.1.1 c.1.2.1.1.2.1 c.1.2.1.1.2.2 c.1.2.1.2.1.1 c.1.2.1.2.2.length c.1.2.1.2.1.2 c.2.1.1 c.2.2.length c.2.1.2 c.1.2.2.1.1 c.1.2.2.1.2.1 c.1.2.2.1.2.2 c.1.2.2.2.1.1 c.1.2.2.2.2.length c.1.2.2.2.1.2 I db w
  (λh=>bk (kM db bg sv pv lv) w h/\∃i x v u A B C z y,py self c.2.2 d=some i/\dT base db self n D 8 nx i h x v u A B C z y)
  (λt g S=>∃h i x v u A B C z y,bk (kM db bg sv pv lv) w h/\py self c.2.2 d=some i/\dT base db self n D 8 nx i h x v u A B C z y/\ai h S/\In S.heap.size S (D+1+n+1) g/\bZ (λq=>h.heap.size<=q) (D+1+n+1) g/\t=(rS i.b self (n+1) c.1.2.2).isSome/\∀r,rS i.b self (n+1) c.1.2.2=some r->bq _ g=0/\aH _ g=true/\cn _ g=r)
  (NC Q I name room s ms P M base db self n D nx c b (kM db bg sv pv lv) w) ?_ ?_ ?_ ?_
 ·intro h Y;refine((T.later Y).all c.2.2 c.2.1.1 c.2.1.2 ?_ bd bb a3).mono ?_
  ·rcases aX.2.2 with e|⟨q,o,e,a,aY⟩
   ·exact ag e
   ·exact ah ⟨q,o,e,a,λaQ aT a0=>⟨λa5 bG bi=>(Y.cell (p:=⟨q,o+aQ*11+a5,none⟩) (aL a aI)).trans ((aY aQ aT a0).1 a5 bG bi),((aY aQ aT a0).2).later (Y.mono aI)⟩⟩
  ·rintro e w' ⟨t,rfl,ay⟩;obtain⟨ar,J,aR⟩:=ay.out;have m:bk (kM db bg sv pv lv) w w':=(aD Y _).trans ar λ_ _ e=>e;refine⟨t,rfl,λq bQ a a1=>(ar.block q (aC.1 a1).1 λk=>by have:=T.low q k;omega).trans a1,λG=>⟨m,?_⟩,λaa=>?_⟩
   ·rw[G]at J;obtain⟨aV,aZ⟩:=fJ.1 J.symm;obtain⟨bw,ba,a9,bC,bD,R,bA,bx,bv,_⟩:=aR aV aZ;exact⟨aV,bw,ba,a9,bC,bD,R,bA,bx,aZ,bv⟩
   ·rw[aa]at J;have Z:py self c.2.2 d=none:=ke.1 (by rw[<-kh,<-J];rfl);rw[aE]at Z;have j:eY room self nx (cn 13 s) (cn 13 s) (ms.map (cn 13)) c b=⟨cn 13 s,2,[],[],[],cn 13 s,ms.map (cn 13)⟩:=by simp[eY,Z]
    refine⟨by rw[j],aF m,⟨s,ws,nm,aq,vs,ma,an,Mh,(aK m).mono (N:=12) (λq a=>ag a) (by omega),by rw[j]⟩,λk=>?_⟩;omega
 ·rintro h ⟨m,i,x,v,u,A,B,C,z,y,F,K⟩;obtain⟨bE,bF⟩:=K.told (self:=self) c.1.2.2 aU;refine(K.value c.1.2.2 (aX.1.2.2.below (bj m)) aU a3 h (am _ _)).mono ?_;rintro e w' ⟨g,rfl,a8⟩;obtain⟨y1,y2,aS,W⟩:=a8.out;exact⟨g,_,rfl,h,i,x,v,u,A,B,C,z,y,m,F,K,y1,y2,aS,bE,λr G=>bF g r G W⟩
 ·rintro g S az ⟨h,i,x,v,u,A,B,C,z,y,m,F,K,y1,_,_,W,_⟩ E;have Z:rS i.b self (n+1) c.1.2.2=none:=ke.1 (by rw[<-kh,<-W];rfl);rw[aE]at F;have j:eY room self nx (cn 13 s) (cn 13 s) (ms.map (cn 13)) c b=⟨cn 13 s,2,[],[],[],cn 13 s,ms.map (cn 13)⟩:=by simp[eY,F,Z]
  have U:bk (kM db bg sv pv lv) w az:=(m.trans (aD y1 (λ_=>False)) λ_ _ e=>e.elim).trans (aD E (λ_=>False)) λ_ _ e=>e.elim;refine⟨by rw[j],aF U,⟨s,ws,nm,aq,vs,ma,an,Mh,(aK U).mono (N:=12) (λq a=>ag a) (by omega),by rw[j]⟩,λk=>?_⟩;omega
 ·rintro g S az ⟨h,i,x,v,u,A,B,C,z,y,m,F,K,y1,y2,aS,W,bI⟩ E;obtain⟨r,G⟩:=fJ.1 W.symm;obtain⟨ax,bJ,a7⟩:=bI r G;rw[aE]at F;have bP:=m.size;have bO:=y1.size;have bo:=E.size;have U:bk (kM db bg sv pv lv) w az:=(m.trans (aD y1 (λ_=>False)) λ_ _ e=>e.elim).trans (aD E (λ_=>False)) λ_ _ e=>e.elim;have aP:aA ⟨D+1+n+1,g⟩:=aJ.2 (bz.1 ax).1;have aO:fm (D+1+n+1) g<13:=by have:=(bz.1 ax).2.1;omega
  have ae:=iW 13 (D+1+n+1) g aP aO;have bp:=rG 13 (D+1+n+1) g _ _ aP aO ((y2.below E).mono bo);have bs:=tn 13 (D+1+n+1) g _ aP aO aS;have br:(aN 13 (D+1+n+1) g).2.2.length=g.2.2.length:=by simp[aN]
  have a4:cn 13 (aN 13 (D+1+n+1) g)=r:=(gR ae).trans a7;have bt:sz 13 (aN 13 (D+1+n+1) g)=sz 13 r:=by
   rw[kY _ _ _ _ ae,<-a7,DT ax]
  have aW:=(aK U).become (N:=12) (aN 13 (D+1+n+1) g) bp (bs.mono λq a k=>by have:=L q k;omega) ((bL ae).trans ax) ((cr _ _ _ _ ae).trans bJ) (λq k=>by have:=L q k;omega) bm bh (by omega);rw[br]at aW;refine aW.mono ?_;rintro e w' ⟨t,rfl,ay⟩;obtain⟨ar,J,au,aw,ap,R,av,al,ao,X,aR,a6,bB⟩:=ay.out;have O:t=decide (((ms.map (cn 13)).map (sz 13)).sum+sz 13 r<=room):=by
   rw[Nb bl,<-bt];exact ar
  have aG:bk (λq=>M q\/kM db bg sv pv lv q) w w':=(aF U).trans (gT J) λq _ a=>ag a
  have aB:cv Q I name room 13 au ms [] (P+402) (λq=>M q\/w.heap.size<=q) w' aw ap R av al ao X:=aR.mono (N:=12) (λq a=>by
   rcases a with a|a
   ·exact ag a
   ·exact ah (by omega)) (aj _)
  have H:dT base db self n D 8 nx i w' x v u A B C z y:=((K.later y1).later E).kept (gT J) λq a _ k=>by
   have:=L q k;omega
  refine⟨t,rfl,λaa=>?_,λad=>⟨i.stops,af H.box 6,λaM=>?_,λaM=>?_⟩⟩
  ·rw[aa]at O;have V:¬((ms.map (cn 13)).map (sz 13)).sum+sz 13 r<=room:=of_decide_eq_false O.symm;have j:eY room self nx (cn 13 s) (cn 13 s) (ms.map (cn 13)) c b=⟨cn 13 s,3,[],[],[],cn 13 s,ms.map (cn 13)⟩:=by
    unfold eY;simp only[F,G];rw[if_neg V]
   refine⟨by rw[j],aG,⟨au,aw,ap,R,av,al,ao,X,aB,by rw[j];exact gR (bB aa)⟩,λk=>?_⟩;omega
  ·rw[ad]at O;have V:((ms.map (cn 13)).map (sz 13)).sum+sz 13 r<=room:=eN O.symm;have j:eY room self nx (cn 13 s) (cn 13 s) (ms.map (cn 13)) c b=⟨cn 13 s,1,i.sends,i.spawns,i.links,r,ms.map (cn 13)⟩:=by
    unfold eY;simp only[F,G];rw[if_pos V,aM];rfl
   refine⟨by rw[j],aG,⟨au,aw,ap,R,av,al,ao,X,aB,by rw[j,a6 ad];exact a4⟩,λ_=>⟨i,x,v,u,A,B,C,z,y,H,by rw[j],by rw[j],by rw[j],λq a k=>?_⟩⟩;have be:=H.high q a;have bf:=H.low q a;rcases k with k|k
   ·have:=L q k;omega
   ·omega
  ·rw[ad]at O;have V:((ms.map (cn 13)).map (sz 13)).sum+sz 13 r<=room:=eN O.symm;have j:eY room self nx (cn 13 s) (cn 13 s) (ms.map (cn 13)) c b=⟨cn 13 s,0,i.sends,i.spawns,i.links,r,ms.map (cn 13)⟩:=by
    unfold eY;simp only[F,G];rw[if_pos V,aM];rfl
   refine⟨by rw[j],aG,⟨au,aw,ap,R,av,al,ao,X,aB,by rw[j,a6 ad];exact a4⟩,λ_=>⟨i,x,v,u,A,B,C,z,y,H,by rw[j],by rw[j],by rw[j],λq a k=>?_⟩⟩;have be:=H.high q a;have bf:=H.low q a;rcases k with k|k
   ·have:=L q k;omega
   ·omega
end
end Go.Proofs.YtckamaoibonjcaaGreat
