/- What is proved here: plain facts and contracts that the claimed theorem stands on. No condition but those that each names. -/
import Derived.Test.YtckamaoibonjcaaGreatG23
import Derived.Test.YtckamaoibonjcaaGreatG22
namespace Go.Proofs.YtckamaoibonjcaaGreat
open Go.RowKit
theorem nE(w:World)(g o:Nat)(v0 v1 v2 v3:Value):bq (λb=>b=g) w (cJ w g o v0 v1 v2 v3):=
 bq.trans (bq.trans (bq.trans (bz w g o v0) (bz _ g (o+1) v1) λ_ _ a=>a) (bz _ g (o+2) v2) λ_ _ a=>a) (bz _ g (o+3) v3) λ_ _ a=>a
theorem AZ{w:World}{g o:Nat}{v0 v1 v2 v3:Value}(j:Nat)(a:j<o\/o+4<=j):(cJ w g o v0 v1 v2 v3).cell? ⟨g,j,none⟩=w.cell? ⟨g,j,none⟩:=by
 unfold cJ;rw[dp j (by omega),dp j (by omega),dp j (by omega),dp j (by omega)]
theorem wM{w:World}{g o:Nat}{f h i j:Value}(v0 v1 v2 v3:Value)(a:w.cell? ⟨g,o,none⟩=some f/\w.cell? ⟨g,o+1,none⟩=some h/\w.cell? ⟨g,o+2,none⟩=some i/\w.cell? ⟨g,o+3,none⟩=some j):(cJ w g o v0 v1 v2 v3).cell? ⟨g,o,none⟩=some v0/\(cJ w g o v0 v1 v2 v3).cell? ⟨g,o+1,none⟩=some v1/\(cJ w g o v0 v1 v2 v3).cell? ⟨g,o+2,none⟩=some v2/\(cJ w g o v0 v1 v2 v3).cell? ⟨g,o+3,none⟩=some v3:=by
 obtain⟨b,c,d,e⟩:=a;unfold cJ;refine⟨?_,?_,?_,?_⟩
 ·rw[dp o (by omega),dp o (by omega),dp o (by omega)];exact gL _ _ _ b
 ·rw[dp (o+1) (by omega),dp (o+1) (by omega)];exact gL _ _ _ ((dp (o+1) (by omega)).trans c)
 ·rw[dp (o+2) (by omega)];exact gL _ _ _ ((dp (o+2) (by omega)).trans ((dp (o+2) (by omega)).trans d))
 ·exact gL _ _ _ ((dp (o+3) (by omega)).trans ((dp (o+3) (by omega)).trans ((dp (o+3) (by omega)).trans e)))
theorem sF{w:World}{g o:Nat}{v0 v1 v2 v3:Value}(j:Nat):(cJ w g o v0 v1 v2 v3).frozen? ⟨g,j,none⟩=w.frozen? ⟨g,j,none⟩:=by
 unfold cJ;rw[gA,gA,gA,gA]
theorem Fg(w:World)(p:Addr):w.drew.cell? p=w.cell? p:=rfl
theorem Aa(w:World)(p:Addr):w.drew.frozen? p=w.frozen? p:=rfl
theorem dE.far{w w':World}{g o:Nat}{n:Nat}{x:Tm n}(b:dE w g o n x)(a:∀j,o<=j->j<o+4->w'.cell? ⟨g,j,none⟩=w.cell? ⟨g,j,none⟩):dE w' g o n x:=by
 cases n with
 | zero=>exact b.elim
 | succ n=>
  obtain⟨c,d,e,f⟩:=b;exact⟨(a _ (by omega) (by omega)).trans c,(a _ (by omega) (by omega)).trans d,(a _ (by omega) (by omega)).trans e,(a _ (by omega) (by omega)).trans f⟩
theorem MX(a:Int)(D:Nat)(h:1<=a/\a<=99):AR (D+1) (bK 3 a D)=true/\cn (D+1) (bK 3 a D)=C4 a:=by
 refine⟨?_,rfl⟩;have f:bV (D+1) (bK 3 a D)=true:=by
  rw[<-aL];intro b c;have:b=((3,a,.empty),(none,0,0)):=by simpa [aw,bK]using c
  subst this;have g:qd a 1 99=true:=by simp[qd];omega
  simp[cv,g]
 have d:bu (D+1) (bK 3 a D)=0:=bw.2 ⟨f,by simp[fh,bK],by simp[sz,bK]⟩;have e:aJ (D+1) (bK 3 a D)=true:=by simp[aJ,bK]
 simp only[AR,d,aA,ic];refine⟨rfl,ai ?_⟩;rw[<-eY];exact e
theorem Ky{D:Nat}{l:List (Tm D)}(a:fY D l=true)(i:Nat){y:Tm D}(c:AR D y=true):fY D (l.set i y)=true:=by
 simp only[fY,List.length_set,aA,bU,b9]at a ⊢;refine⟨a.1,λd b=>?_⟩;rcases sg b with b|rfl
 ·exact a.2 d b
 ·exact c
section
variable {base db:Nat} {self:Int} {n D k:Nat} {nx:Int} {d:Dg} {w:World} {l:List (Tm (D+1))} {bg bc:Nat} {sd:List (Int×Tm (D+1+n+1))} {sp:List (Int×ByteArray×Tm (D+1+n+1))} {sv pv lv:Value}
theorem dW.spawn(h:dW base db self n D k nx d w l bg bc sd sp sv pv lv)(a:Ac (n+1))(aQ:ij (n+1) base w a)(ak:bu (n+1) a.2.1.2=0)(aP:a.1=2)(a0:dG a.2.2.1=true)(bB:0<=a.2.2.2/\a.2.2.2<4)(a2:1<=self/\self<=99)(bs:k<=7):am 162 #[aF db,Np a] w λe w'=>∃t,e=.returned (.bool t)/\Hid (xz base db self n D k nx d a (kS db bg sv pv lv) w t w'):=by
 have av:=h.pRow;obtain⟨M,N,rfl⟩:=lZ av;obtain⟨bm,bn,bo,bp,aN,aO⟩:=h.few;obtain⟨m,Y⟩:∃m:Nat,a.2.2.2=(m:Int):=⟨a.2.2.2.toNat,by omega⟩;have a5:m<4:=by omega
 have br:=(gU h.bnd).1;obtain⟨p,az⟩:∃p,l[m]?=some p:=⟨l[m]'(by omega),aH _⟩;obtain⟨y1,y2,bG⟩:=h.row m p az;have aT:d.b[m]?=some (cn (D+1) p):=by rw[<-h.tells,dr,az];rfl
 have F:qz self a d=(rn d.b self (n+1) a.2.1.2).bind λt=>if p.1.1=6 then some {d with b:=d.b.set m (C4 d.next),next:=d.next+1,spawns:=d.spawns++ [(d.next,a.2.2.1,t)]}else none:=by
  have aX:bO ⟨13,(d.b[a.2.2.2.toNat]?).getD (C4 0)⟩=p.1.1:=by
   rw[Y,Int.toNat_natCast,aT];rfl
  have aY:¬a.1=1:=by omega
  unfold qz;rw[if_neg aY,if_pos aP,aX,Y,Int.toNat_natCast]
 obtain⟨a3,a4⟩:=h.told (self:=self) a.2.1.2 ak
 have q:=Dk (D+1+n) a.1 a.2.1.1.1.1 a.2.1.1.1.2.1 a.2.1.1.1.2.2 a.2.1.1.2.1.1 a.2.1.1.2.2.length a.2.1.1.2.1.2 a.2.1.2.1.1 a.2.1.2.1.2.1 a.2.1.2.1.2.2 a.2.1.2.2.1.1 a.2.1.2.2.2.length a.2.1.2.2.1.2 a.2.2.1 m base db M sp.length N _ w (nu 0 (vl (D+1) l self (n+1) a.2.1.2)) bg bc d.next p.1.1 p.1.2.1 p.1.2.2 p.2.1.1 p.2.2.length p.2.1.2 a5 (by omega) h.lt h.own.2.2.2.1 h.own.1 h.own.2.2.2.2 (by omega) (by omega) (by
   simp only[dG,qd,aA,bU]at a0
   omega)
  ⟨ag h.box 4,ag h.box 0,ag h.box 2,λj=>ti h.box j,h.free⟩ av ⟨h.apart.1.2.1,h.apart.2.1.2.1⟩ y1 (λaG=>iZ _ _ _ _ _ _ aG) (h.value a.2.1.2 aQ.2.2.1 ak a2)
 rw[<-Y]at q;refine q.mono ?_;rintro e w' ⟨rfl,X,aB⟩;refine⟨_,rfl,?_⟩;rw[a3]at X aB ⊢;cases f:rn d.b self (n+1) a.2.1.2 with
 | none=>
  have T:=X (by rw[f];rfl);refine⟨aI T _,by rw[F,f];rfl,λS r=>?_⟩;rw[F,f]at r;cases r
 | some t=>
  by_cases E:p.1.1=6;rotate_left
  ·have T:=X (by rw[f];simp[E]);refine⟨aI T _,by rw[F,f];simp[E],λS r=>?_⟩;rw[F,f]at r;simp[E]at r
  ·obtain⟨y,g,c,aC,x,C,bb,a9,Q,a1,A,s,ay,Z,ax⟩:=aB (by rw[f];simp[E]);obtain⟨a6,_,bd⟩:=a4 y t f bb;have aR:aC.heap[db]?=_:=(A.block db h.lt λi=>h.apart.1.2.1 i).trans h.box;obtain⟨G,be,bh,R,bE⟩:=h.own;have bA:=A.size;have U:=(nP aR).2.1 (ae (some ⟨g,0,none⟩) (sp.length+1) c);rw[<-ay]at U;have u:bq (λb=>b=db) aC x:=by rw[ay];exact bz _ _ _ _
   have B:bq (λb=>b=bg) x C:=by
    rw[Z];exact bq.trans (nE x bg (m*4) _ _ _ _) (aI ((ap _ _).drew) _) λ_ _ e=>e
   have aS:C.heap[db]?=_:=(B.block db (aD.1 U).1 G).trans U;have v:bq (λb=>b=db) C w':=by rw[ax];exact bz _ _ _ _
   have aj:=(nP aS).2.2.2.1 (ab (d.next+1));rw[<-ax]at aj;have bv:=u.size;have bw:=B.size;have bx:=v.size;have ao:bq (kS db bg sv (ae M sp.length N) lv) w w':=bq.trans (bq.trans (bq.trans (A.mono λi _ f=>ai (ai (ai (ah f)))) u λi _ f=>ah f) B λi _ f=>ai (ah f)) v λi _ f=>ah f;have z:∀i,i<w.heap.size->¬(Value.slice M sp.length N).ownBlock=some i->g≠i:=λi f aZ e=>by
    rcases s with s|s
    ·rw[e]at s;exact aZ s
    ·omega
   have ad:∀i,kS db bg sv (ae (some ⟨g,0,none⟩) (sp.length+1) c) lv i->kS db bg sv (ae M sp.length N) lv i\/w.heap.size<=i:=λi f=>by
    rcases f with f|f|f|f|f
    ·exact ah (ah f)
    ·exact ah (ai (ah f))
    ·exact ah (ai (ai (ah f)))
    ·have:g=i:=au f;subst this;rcases s with s|s
     ·exact ah (ai (ai (ai (ah s))))
     ·exact ai s
    ·exact ah (ai (ai (ai (ai f))))
   obtain⟨bi,bj,bk,bF⟩:=h.frame ao ad;refine⟨ao,by rw[F,f];simp[E],λS r=>?_⟩;rw[F,f]at r;have r:some {d with b:=d.b.set m (C4 d.next),next:=d.next+1,spawns:=d.spawns++ [(d.next,a.2.2.1,t)]}=some S:=by simpa [E]using r
   obtain rfl:=au r;have aq:∀i,lv.ownBlock=some i->i<w.heap.size:=λi f=>by
    obtain⟨aJ,V⟩:=dV h.lRow i f;exact(aD.1 V).1
   have aw:∀i,sv.ownBlock=some i->i<w.heap.size:=λi f=>by
    obtain⟨aJ,V⟩:=dV h.sRow i f;exact(aD.1 V).1
   have O:¬(Value.slice M sp.length N).ownBlock=some bg:=h.apart.2.1.2.1;have ba:bZ (Ke base db bg sv (ae (some ⟨g,0,none⟩) (sp.length+1) c) lv) _ y:=Q.mono λi f=>by
    have:=h.lt;refine⟨by omega,λq=>?_⟩;rcases q with q|q|q|q|q
    ·omega
    ·omega
    ·have:=aw i q;omega
    ·exact f.2 (au q).symm
    ·have:=aq i q;omega
   have ar:=MX d.next D (by omega)
   -- the row of what is bound
   have H:∀j,x.cell? ⟨bg,j,none⟩=w.cell? ⟨bg,j,none⟩:=λj=>(u.cell j (by omega) (λe=>G e.symm)).trans (A.cell j R O);have J:∀j,w'.cell? ⟨bg,j,none⟩=C.cell? ⟨bg,j,none⟩:=λj=>v.cell j (by omega) (λe=>G e.symm);have I:∀j,C.cell? ⟨bg,j,none⟩=(cJ x bg (m*4) (ab 3) (ab d.next) (af ⟨#[]⟩) (ae none 0 0)).cell? ⟨bg,j,none⟩:=λj=>by
    rw[Z,Fg]
   have aU:∀j,j<m*4\/m*4+4<=j->w'.cell? ⟨bg,j,none⟩=w.cell? ⟨bg,j,none⟩:=λj aW=>by
    rw[J,I,AZ j aW];exact H j
   have P:=wM (w:=x) (g:=bg) (o:=m*4) (ab 3) (ab d.next) (af ⟨#[]⟩) (ae none 0 0) ⟨(H _).trans y1.1,(H _).trans y1.2.1,(H _).trans y1.2.2.1,(H _).trans y1.2.2.2⟩;refine⟨l.set m (bK 3 d.next D),bg,bc,sd,sp++ [(d.next,a.2.2.1,y)],sv,_,lv,⟨aj,⟨G,be,bh,by omega,by omega⟩,Ky h.bnd m ar.1,?_,λaa aE L=>?_,λj=>?_,?_,?_,?_,h.sIs,?_,bj,λbl K=>?_,⟨⟨h.apart.1.1,?_,h.apart.1.2.2⟩,⟨h.apart.2.1.1,?_,h.apart.2.1.2.2⟩,λi=>⟨λf=>⟨λe=>?_,((h.apart.2.2 i).1 f).2⟩,λf e=>?_⟩⟩,⟨by omega,by simp;omega,by show d.links.length<=k+1;omega,by show d.next+1=nx+((sp++ [(d.next,a.2.2.1,y)]).length:Nat);simp;omega,aN,aO⟩⟩,ad⟩
   ·rw[List.map_set,h.tells,ar.2]
   ·by_cases al:m=aa
    ·subst al;rw[List.getElem?_set_self (by omega)]at L;obtain rfl:=au L;have an:=kL D 3 d.next (by unfold dn;omega) (by unfold dn;omega) w'.heap.size w' (Ke base db bg sv (ae (some ⟨g,0,none⟩) (sp.length+1) c) lv);refine⟨⟨?_,?_,?_,?_⟩,an.1,an.2⟩
     ·rw[J,I];exact P.1
     ·rw[J,I];exact P.2.1
     ·rw[J,I];exact P.2.2.1
     ·rw[J,I];exact P.2.2.2
    ·rw[List.getElem?_set_ne al]at L;exact⟨(h.row aa aE L).1.far λj bC bD=>aU j (by omega),bi aa aE L⟩
   ·have aM:w'.frozen? ⟨bg,j,none⟩=C.frozen? ⟨bg,j,none⟩:=by
      unfold World.frozen?;rw[v.block bg (by omega) (λe=>G e.symm)]
    have aL:C.frozen? ⟨bg,j,none⟩=x.frozen? ⟨bg,j,none⟩:=by
     rw[Z,Aa,sF]
    have aK:x.frozen? ⟨bg,j,none⟩=w.frozen? ⟨bg,j,none⟩:=by
     unfold World.frozen?;rw[u.block bg (by omega) (λe=>G e.symm),A.block bg R O]
    rw[aM,aL,aK];exact h.free j
   ·refine bf (bf (bf (bf h.sRow A λi f W=>((h.apart.2.2 i).1 f).1 W) u λi f e=>h.apart.1.1 (by rw[f,e])) B λi f e=>h.apart.2.1.1 (by rw[f,e])) v λi f e=>h.apart.1.1 (by rw[f,e])
   ·have:=bf (bf (bf a1 u λi f e=>z db h.lt h.apart.1.2.1 (by
      have:g=i:=au f
      rw[this,e])) B λi f e=>z bg R O (by
      have:g=i:=au f
      rw[this,e])) v λi f e=>z db h.lt h.apart.1.2.1 (by
      have:g=i:=au f
      rw[this,e])
    simpa using this
   ·refine bf (bf (bf (bf h.lRow A λi f W=>(h.apart.2.2 i).2 W f) u λi f e=>h.apart.1.2.2 (by rw[f,e])) B λi f e=>h.apart.2.1.2.2 (by rw[f,e])) v λi f e=>h.apart.1.2.2 (by rw[f,e])
   ·simp[h.pIs,bd]
   ·rcases cR.1 K with K|K
    ·exact bk bl K
    ·obtain rfl:=de.1 K;have bt:=h.lt;have a7:=a9.kee u (Q.mono λi f e=>by omega);have a8:=a7.kee B (Q.mono λi f e=>by omega);exact⟨a6,a8.kee v (Q.mono λi f e=>by omega),ba⟩
   ·exact λe=>z db h.lt h.apart.1.2.1 (au e)
   ·exact λe=>z bg R O (au e)
   ·exact z i (aw i f) (λy=>((h.apart.2.2 i).1 f).1 y) (au e)
   ·have aV:g=i:=au f;exact z i (aq i e) (λy=>(h.apart.2.2 i).2 y e) aV
end
def Mg{n:Nat}(a:Ac (n+1)):Prop:=nr (n+1) a=true/\(a.1=1\/a.1=3->bu (n+1) a.2.1.1=0)/\(a.1=1\/a.1=2->bu (n+1) a.2.1.2=0)
theorem pF(self:Int){n:Nat}:(p q:List (Ac (n+1)))->(d:Dg)->pE self (p++q) d=(pE self p d).bind (pE self q)
 | [],_,_=>rfl
 | a::p,q,d=>by
  simp only[fG,pE];cases qz self a d with
  | none=>rfl
  | some b=>exact pF self p q b
theorem Ik(self:Int){n:Nat}{l:List (Ac (n+1))}{i:Nat}{a:Ac (n+1)}(b:l[i]?=some a)(d:Dg):pE self (l.take (i+1)) d=(pE self (l.take i) d).bind (qz self a):=by
 rw[dz,b,pF];congr 1;funext x;show pE self [a] x=qz self a x;simp only[pE];cases qz self a x<;>rfl
theorem Ii(self:Int){n:Nat}{l:List (Ac (n+1))}{i:Nat}{d:Dg}(a:pE self (l.take i) d=none):pE self l d=none:=by
 rw[<-jp i l,pF,a];rfl
section
variable {base db:Nat} {self:Int} {n D k:Nat} {nx:Int} {d:Dg} {w:World} {l:List (Tm (D+1))} {bg bc:Nat} {sd:List (Int×Tm (D+1+n+1))} {sp:List (Int×ByteArray×Tm (D+1+n+1))} {sv pv lv:Value}
theorem xz.from{a:Ac (n+1)}{S:Nat->Prop}{W w':World}{t:Bool}(b:xz base db self n D k nx d a S W t w')(c:aj w W):xz base db self n D k nx d a S w t w':=⟨(aI c S).trans b.1 λ_ _ e=>e,b.2.1,λh l=>by
 obtain⟨o,g,f,s,u,v,r,p,i,j⟩:=b.2.2 h l;refine⟨o,g,f,s,u,v,r,p,i,λq m=>?_⟩;rcases j q m with e|e
 ·exact ah e
 ·have:=c.size
  exact ai (by omega)⟩
theorem ij.later{B:Nat}{a:Ac (n+1)}{W:World}(b:ij (n+1) B w a)(c:Below B w W):ij (n+1) B W a:=⟨b.1,b.2.1.below c,b.2.2.1.below c,b.2.2.2⟩
theorem dW.stop(a:dW base db self n D k nx d w l bg bc sd sp sv pv lv):Do base db self n D (k+1) nx {d with stops:=true} (kS db bg sv pv lv) w (w.setCell ⟨db,6,none⟩ (.bool true))/\bq (kS db bg sv pv lv) w (w.setCell ⟨db,6,none⟩ (.bool true)):=by
 have e:=bz w db 6 (.bool true);obtain⟨t,u,v,C⟩:=a.frame (w':=w.setCell ⟨db,6,none⟩ (.bool true)) (e.mono λf _ b=>ah b) λf c=>ah c;obtain⟨g,r,s,m,B⟩:=a.own;have A:=e.size;obtain⟨x,y,z,p⟩:=a.few;refine⟨⟨l,bg,bc,sd,sp,sv,pv,lv,⟨(nP a.box).2.2.2.2 _,⟨g,r,s,by omega,by omega⟩,a.bnd,a.tells,λj o i=>⟨(a.row j o i).1.kee e m (λb=>g b.symm),t j o i⟩,λq=>?_,bf a.sRow e λf c b=>a.apart.1.1 (by rw[c,b]),bf a.pRow e λf c b=>a.apart.1.2.1 (by rw[c,b]),bf a.lRow e λf c b=>a.apart.1.2.2 (by rw[c,b]),a.sIs,a.pIs,u,v,a.apart,⟨by omega,by omega,by show d.links.length<=k+1;omega,p⟩⟩,λf c=>ah c⟩,e.mono λf _ b=>ah b⟩;have h:=a.free q;unfold World.frozen? at h ⊢;rw[e.block bg m (λb=>g b.symm)];exact h
theorem dW.one(c:dW base db self n D k nx d w l bg bc sd sp sv pv lv)(a:Ac (n+1))(m:ij (n+1) base w a)(A:Mg a)(p:1<=self/\self<=99)(y:k<=7):am 138 #[aF db,Np a] w λe w'=>∃t,e=.returned (.bool t)/\Hid (xz base db self n D k nx d a (kS db bg sv pv lv) w t w'):=by
 obtain⟨f,r,s⟩:=A;have o:=c.own.2.2.2.2;refine I6 a.1 a.2.1.1.1.1 a.2.1.1.1.2.1 a.2.1.1.1.2.2 a.2.1.1.2.1.1 a.2.1.1.2.2.length a.2.1.1.2.1.2 a.2.1.2.1.1 a.2.1.2.1.2.1 a.2.1.2.1.2.2 a.2.1.2.2.1.1 a.2.1.2.2.2.length a.2.1.2.2.1.2 a.2.2.1 a.2.2.2 db w (xz base db self n D k nx d a (kS db bg sv pv lv) w) c.lt ⟨d.stops,ag c.box 6,ti c.box 6⟩ ?_ ?_ ?_ ?_
 ·intro i h b;refine((c.later b).send a (m.later (b.mono o)) (r (ah i)) (s (ah i)) i p (by omega)).mono ?_;rintro e w' ⟨t,rfl,g⟩;exact⟨t,rfl,g.out.from b⟩
 ·intro j h b;have x:dG a.2.2.1=true/\0<=a.2.2.2/\a.2.2.2<4:=by
   have z:¬a.1=1:=by omega
   unfold nr at f;rw[if_neg z,if_pos j]at f;simp only[aA,bU]at f;exact⟨f.1.1.2,f.1.2,f.2⟩
  refine((c.later b).spawn a (m.later (b.mono o)) (s (ai j)) j x.1 x.2 p y).mono ?_;rintro e w' ⟨t,rfl,g⟩;exact⟨t,rfl,g.out.from b⟩
 ·intro q h b;refine((c.later b).link a (m.later (b.mono o)) (r (ai q)) q p (by omega)).mono ?_;rintro e w' ⟨t,rfl,g⟩;exact⟨t,rfl,g.out.from b⟩
 ·intro B C E h b;have u:qz self a d=some {d with stops:=true}:=by
   unfold qz;rw[if_neg B,if_neg C,if_neg E]
  obtain⟨F,G⟩:=(c.later b).stop;refine xz.from ⟨G,by rw[u];rfl,λH v=>?_⟩ b;rw[u]at v;obtain rfl:=au v;exact F
theorem dW.all(H:dW base db self n D 0 nx d w l bg bc sd sp sv pv lv)(ac:List (Ac (n+1)))(L:Option Addr)(U:Nat)(O:px base w 11 (fW (n+1)) (ij (n+1) base w) L ac)(ad:∀a∈ac,Mg a)(X:ac.length<=8)(af:1<=self/\self<=99):am 102 #[aF db,ae L ac.length U] w λe w'=>∃t,e=.returned (.bool t)/\Hid (bq (kS db bg sv pv lv) w w'/\t=(pE self ac d).isSome/\∀g,pE self ac d=some g->Do base db self n D 8 nx g (kS db bg sv pv lv) w w'):=by
 have ab:=H.own.2.2.2.2;have R:∀{c:World},bq (kS db bg sv pv lv) w c->Below base w c:=λj=>j.below ab λb Y k=>by
  have:=H.high b k;omega
 refine(Hg ac L ac.length U db w (λi c=>bq (kS db bg sv pv lv) w c/\∃g,pE self (ac.take i) d=some g/\Do base db self n D i nx g (kS db bg sv pv lv) w c) (λc=>bq (kS db bg sv pv lv) w c/\pE self ac d=none) (by omega) rfl ?_ ?_ ?_ ?_).mono ?_
 ·rintro i a c h ⟨j,_⟩;rcases O with e|⟨b,o,e,S,J⟩
  ·rw[e]at h;simp at h
  ·exact⟨b,o,e,λT ax aa=>((R j).cell (p:=⟨b,o+i*11+T,none⟩) S).trans ((J i a h).1 T ax aa)⟩
 ·rintro i c ay ⟨j,g,I,z,x,v,C,E,F,B,A,q,m⟩ N;exact⟨j.trans (aI N (λ_=>False)) λ_ _ e=>e.elim,g,I,z,x,v,C,E,F,B,A,q.later N,m⟩
 ·rintro i a c h ⟨j,g,I,z,x,v,C,E,F,B,A,q,m⟩;have az:=(aR.1 h).1;have Z:ij (n+1) base c a:=by
   rcases O with e|⟨b,o,e,S,J⟩
   ·rw[e]at h;simp at h
   ·exact((J i a h).2).later (R j)
  refine(q.one a Z (ad a (aG h)) af (by omega)).mono ?_;rintro e w' ⟨t,rfl,u⟩;obtain⟨s,f,M⟩:=u.out;have y:=Ik self h d;rw[I]at y;simp only[dh]at y;have Q:bq (kS db bg sv pv lv) w w':=j.trans s λb Y k=>by
   rcases m b k with e|e
   ·exact e
   ·omega
  refine⟨t,rfl,λaj=>⟨Q,?_⟩,λag=>⟨Q,?_⟩⟩
  ·rw[aj]at f;obtain⟨G,r⟩:=gj.1 f.symm;obtain⟨ao,W,V,ar,av,aw,aq,ap,al,an⟩:=M G r;refine⟨G,by rw[y,r],ao,W,V,ar,av,aw,aq,ap,al,λk K=>?_⟩;rcases an k K with e|e
   ·exact m k e
   ·have:=j.size;exact ai (by omega)
  ·rw[ag]at f;refine Ii self (i:=i+1) ?_;rw[y];exact ku.1 (by rw[<-kv,<-f];rfl)
 ·exact⟨bq.refl _ _,d,rfl,l,bg,bc,sd,sp,sv,pv,lv,H,λk K=>ah K⟩
 ·rintro e w' ⟨t,rfl,u⟩;refine⟨t,rfl,?_⟩;cases t
  ·obtain⟨s,f⟩:=u.out.2 rfl;refine⟨s,by rw[f];rfl,λg P=>?_⟩;rw[f]at P;cases P
  ·obtain⟨s,g,f,M⟩:=u.out.1 rfl;rw[bC (ak _)]at f;refine⟨s,by rw[f];rfl,λG r=>?_⟩;rw[f]at r;obtain rfl:=au r;obtain⟨z,x,v,C,E,F,B,A,q,m⟩:=M;exact⟨z,x,v,C,E,F,B,A,q.more X,m⟩
end
theorem Er(N:Nat):bu (N+1) (bK 1 0 N)=0/\aJ (N+1) (bK 1 0 N)=true/\sz (N+1) (bK 1 0 N)=0:=by
 have c:bV (N+1) (bK 1 0 N)=true:=by
  rw[<-aL];intro a b;have:a=((1,0,.empty),(none,0,0)):=by simpa [aw,bK]using b
  subst this;simp[cv,qd]
 exact⟨bw.2 ⟨c,by simp[fh,bK],by simp[sz,bK]⟩,by simp[aJ,bK],by simp[sz,bK]⟩
theorem AN{ws:List Wd}{nm:List ByteArray}{N:Nat}:dB ws nm (N+1) (bK 1 0 N) (1,0):=⟨λa=>by simp[bK]at a,λa=>by simp[bK]at a,λ_ _=>rfl⟩
theorem jI.numb{N:Nat}{ws:List Wd}{nm:List ByteArray}{room:Int}{r:Wd}{h:List Wd}{s:Tm (N+1)}{g:List (Tm (N+1))}(i:jI (N+1) ws nm room (r::h) (s::g)):jI (N+1) ws nm room ((1,0)::h) (bK 1 0 N::g):=by
 obtain⟨e,f,j,k,l,m,n,o⟩:=i;obtain⟨p,q,u⟩:=Er N;refine⟨⟨by simpa using e.1,λc t d b a=>?_⟩,?_,λd a=>?_,?_,l,m,n,o⟩
 ·cases c with
  | zero=>
   simp only[cN,kw]at b a;subst b a;exact AN
  | succ c=>exact e.2 (c+1) t d (by simpa using b) (by simpa using a)
 ·simp only[bB]at f ⊢;rw[lV (by decide),mu];exact(eI.1 f).2.1
 ·rcases ch.1 a with rfl|a
  ·exact⟨p,q⟩
  ·exact j d (bI _ a)
 ·simp only[aK,bv]at k ⊢;have:=(eE (N+1) s).1;omega
theorem jI.turned{N:Nat}{ws:List Wd}{nm:List ByteArray}{room:Int}{C v:Wd}{vs:List Wd}{s x:Tm (N+1)}{ms:List (Tm (N+1))}(n:jI (N+1) ws nm room (C::vs++ [v]) (s::ms++ [x]))(f:vs.length=ms.length):jI (N+1) ws nm room (v::vs) (x::ms):=by
 obtain⟨g,h,u,w,y,z,A,B⟩:=n;refine⟨⟨by simp[f],λd D e c a=>?_⟩,?_,λe a=>u e ?_,?_,y,z,A,B⟩
 ·cases d with
  | zero=>
   simp only[cN,kw]at c a;subst c a;exact g.2 (vs.length+1) v x (by simp) (by simp[f])
  | succ d=>
   simp only[cY]at c a;have o:=(aR.1 c).1;have p:=(aR.1 a).1;exact g.2 (d+1) D e (by rw[fG,cY,dk o];exact c) (by rw[fG,cY,dk p];exact a)
 ·simp only[fG,bB,kj,List.flatMap_nil,eh]at h ⊢;obtain⟨_,t,_⟩:=eI.1 h;obtain⟨j,k,l⟩:=eI.1 t;exact eI.2 ⟨k,j,λi q b r m=>l b r i q m.symm⟩
 ·rcases ch.1 a with rfl|a
  ·simp
  ·simp[a]
 ·simp only[fG,aK,fJ,bv,List.sum_append,bX,jo]at w ⊢;have:=(eE (N+1) s).1;omega
theorem qT(w:World)(c:Nat)(a b:Int):bP (λq=>q=c) w (tw w c a b):=(bk w c 5 (ab a)).trans (bk _ c 6 (ab b)) λ_ _ e=>e
theorem Jz(w:World)(c:Nat)(a b:Int):(tw w c a b).heap.size=w.heap.size:=by simp[tw,World.setCell]
theorem gX{S:Nat->Prop}{w w':World}(a:bP S w w'):bq S w w':=⟨a.os,a.tape,a.output,a.size,a.block⟩
theorem ja{S:Nat->Prop}{w w':World}(a:bq S w w'):bP S w w':=⟨a.os,a.tape,a.output,a.size,a.block⟩
section
variable {base pb:Nat} {name:ByteArray} {room:Int} {N:Nat} {s:Tm (N+1)} {ms:List (Tm (N+1))} {xs:List (Wd×Tm (N+1))} {nk:Nat} {M:Nat->Prop} {w:World} {ws:List Wd} {nm:List ByteArray} {sv:Wd} {vs:List Wd} {ma:Option Addr} {mc:Nat} {Mh:Nat->Prop}
theorem ju.keptBox{v:Wd}(h:ju Mh ma vs mc w)(i:Mh pb):ju Mh ma vs mc (tw w pb v.1 v.2):=by
 rcases h with a|⟨d,j,e,f,b,c,g⟩
 ·exact ah a
 ·exact ai ⟨d,j,e,f,b,((qT w pb v.1 v.2).block d (aD.1 c).1 λa=>b (by rw[a];exact i)).trans c,g⟩
theorem dA.word{mv:Value}{v:Wd}(a:dA base (PL pb name sv mv) room ws nm M w):dA base (PL pb name v mv) room ws nm M (tw w pb v.1 v.2):=a.turn (qT w pb v.1 v.2) λtv lv mp b=>by
 unfold tw World.setCell;simp[bG,b]
theorem cC.numb(a:cC base pb name room (N+1) s ms [] nk M w ws nm sv vs ma mc Mh):cC base pb name room (N+1) (bK 1 0 N) ms [] nk M (tw w pb 1 0) ws nm (1,0) vs ma mc Mh/\bP M w (tw w pb 1 0):=by
 obtain⟨d,f⟩:=a.box0;have c:=a.has;simp only[bX,eh]at c;refine⟨⟨a.heap.word (v:=(1,0)),a.mail.keptBox (v:=(1,0)) d,?_,a.len,a.names,a.inM,a.mailM⟩,(qT w pb 1 0).mono λb e=>?_⟩
 ·simp only[bX,eh];exact c.numb
 ·rw[e];exact a.inM pb d
theorem cC.turned{v:Wd}{x:Tm (N+1)}(a:cC base pb name room (N+1) s ms [(v,x)] nk M w ws nm sv vs ma mc Mh):cC base pb name room (N+1) x ms [] nk M (tw w pb v.1 v.2) ws nm v vs ma mc Mh/\bP M w (tw w pb v.1 v.2):=by
 obtain⟨d,f⟩:=a.box0;have c:=a.has;simp only[aK,bX]at c;refine⟨⟨a.heap.word,a.mail.keptBox d,?_,a.len,a.names,a.inM,a.mailM⟩,(qT w pb v.1 v.2).mono λb e=>?_⟩
 ·simp only[bX,eh];exact c.turned a.len
 ·rw[e];exact a.inM pb d
theorem cC.cells56(e:cC base pb name room (N+1) s ms xs nk M w ws nm sv vs ma mc Mh):(∃a,w.cell? ⟨pb,5,none⟩=some (ab a))/\(∃a,w.cell? ⟨pb,6,none⟩=some (ab a))/\∀j,w.frozen? ⟨pb,j,none⟩=false:=by
 obtain⟨i,g,h,f,_⟩:=e.heap.box;obtain⟨_,b,c,_,d,_⟩:=PL.cells f;exact⟨⟨_,b⟩,⟨_,c⟩,d⟩
def Ns(base pb:Nat)(name:ByteArray)(room:Int)(N:Nat)(s:Tm (N+1))(ms:List (Tm (N+1)))(x:Tm (N+1))(nk:Nat)(M:Nat->Prop)(w:World)(t:Bool)(w':World):Prop:=
 t=decide ((ms.map (sz (N+1))).sum+sz (N+1) x<=room)/\bP M w w'/\∃a i f g h d e c,cC base pb name room (N+1) a ms [] (nk+402) (λb=>M b\/w.heap.size<=b) w' i f g h d e c/\(t=true->a=x)/\(t=false->ax (N+1) a (N+1) s=true)
theorem wN{x:Tm (N+1)}{ms:List (Tm (N+1))}(a:bu (N+1) x=0)(b:aJ (N+1) x=true):rQ (N+1) x room (bK 1 0 N::ms)=if (ms.map (sz (N+1))).sum+sz (N+1) x<=room then 0 else 6:=by
 unfold rQ;rw[if_neg (by simp[a]),if_neg (by simp[b])];simp only[aK,bv,(Er N).2.2,Int.zero_add]
theorem cC.become(k:cC base pb name room (N+1) s ms [] nk M w ws nm sv vs ma mc Mh)(x:Tm (N+1))(aE:In w.heap.size w (N+1) x)(L:bZ (λb=>¬M b) (N+1) x)(E:bu (N+1) x=0)(ak:aJ (N+1) x=true)(m:∀b,M b->b<w.heap.size)(a7:nk<=48000)(B:ms.length<=999)(a6:base<=w.heap.size):am 104 #[aF pb,.agg #[ab x.1.1,ab x.1.2.1,af x.1.2.2,ae x.2.1.1 x.2.2.length x.2.1.2]] w λe w'=>∃t,e=.returned (.bool t)/\Hid (Ns base pb name room N s ms x nk M w t w'):=by
 obtain⟨ar,au⟩:=k.box0;have a5:M pb:=k.inM pb ar;have u:=k.front;have P:=u.2.2.1 s (by simp);have aB:(ms.map (sz (N+1))).sum+sz (N+1) s<=room:=by
  have aj:=u.2.2.2.1;have a4:=u.2.2.2.2.1;simp only[aK,bv]at aj;omega
 refine zC x.1.1 x.1.2.1 x.1.2.2 x.2.1.1 x.2.2.length x.2.1.2 pb w (λT U V sa sl sc f=>∃y0:Tm (N+1),(T=y0.1.1/\U=y0.1.2.1/\V=y0.1.2.2/\sa=y0.2.1.1/\sl=y0.2.2.length/\sc=y0.2.1.2)/\In f.heap.size f (N+1) y0/\bZ (λa=>w.heap.size<=a) (N+1) y0/\ax (N+1) y0 (N+1) s=true) (λ_ _ _ _=>True) (Ns base pb name room N s ms x nk M w) ?_ ?_ ?_
 ·intro f d;refine((k.later d).state (by omega)).mono ?_;rintro e w' ⟨a1,rfl,o⟩;exact⟨_,_,_,_,_,_,rfl,o.out.1,a1,⟨rfl,rfl,rfl,rfl,rfl,rfl⟩,o.out.2.1,o.out.2.2.1.mono λa O=>by have:=d.size;omega,o.out.2.2.2⟩
 ·intro f d;obtain⟨ag,b,c⟩:=(k.later d).cells56;exact⟨ag,b,c,au⟩
 ·rintro T U V sa sl sc a3 j aT aU ⟨y0,⟨rfl,rfl,rfl,rfl,rfl,rfl⟩,Q,R,q⟩ D r a8 a9 p;have bb:=r.size;obtain⟨ao,I⟩:=(k.later r).numb;have bd:=Jz j pb 1 0;have H:bP M w (tw j pb 1 0):=(aX r M).trans I λ_ _ e=>e;have aG:In (tw j pb 1 0).heap.size (tw j pb 1 0) (N+1) x:=aE.kee (gX H) L;have av:=ao.put x aG L (eN E) (λb h=>by have:=m b h;omega) (by omega) B (by omega);refine av.mono ?_;rintro e w' ⟨W,rfl,Y⟩;obtain⟨aZ,aR,bf,aW,aN,aP,aa,i,n⟩:=Y.out;have F:=wN (room:=room) (ms:=ms) E ak;have K:bP M w w':=H.trans n λ_ _ e=>e;have bc:=n.size;refine⟨W,_,rfl,⟨?_,?_,i.cells56.1,i.cells56.2.1,i.cells56.2.2⟩,trivial,?_,?_⟩
  ·exact(n.block aT (aD.1 p.1).1 λa=>by have:=m _ a;omega).trans p.1
  ·exact(n.block aU (aD.1 p.2.1).1 λa=>by have:=m _ a;omega).trans p.2.1
  ·intro g f d;rw[if_pos g]at i;obtain⟨z,v⟩:=(i.later d).turned;rw[F]at g;have al:(ms.map (sz (N+1))).sum+sz (N+1) x<=room:=by
    by_cases a:(ms.map (sz (N+1))).sum+sz (N+1) x<=room
    ·exact a
    ·rw[if_neg a]at g;cases g
   refine⟨by simp[al],(K.trans (aX d M) λ_ _ e=>e).trans v λb h a=>?_,x,aZ,aR,W,aW,aN,aP,aa,z.mono (λb a=>?_) (by omega),λ_=>rfl,λa=>by cases a⟩
   ·rcases a with a|a
    ·exact a
    ·omega
   ·rcases a with a|a
    ·exact ah a
    ·exact ai (by omega)
  ·intro g f aV d ba aw;rw[if_neg g]at i;have an:¬(ms.map (sz (N+1))).sum+sz (N+1) x<=room:=λa=>g (by rw[F,if_pos a]);have aq:=(i.inside.later d);have aA:=d.size;have aM:=In.offB R Q;have az:=D.size;have A:bu (N+1) y0=0/\aJ (N+1) y0=true:=⟨(bM q).trans P.1,(cw _ _ _ _ q).trans P.2⟩;have aH:In j.heap.size j (N+1) y0:=(Q.below D).mono az;have S:bZ (λb=>¬M b) (N+1) y0:=R.mono λa O l=>by have:=m a l;omega
   have aI:In w'.heap.size w' (N+1) y0:=(aH.kee (gX I) S).kee (gX n) S;have aL:In f.heap.size f (N+1) y0:=(aI.below d).mono aA;have G:=wN (room:=room) (ms:=ms) A.1 A.2;have aC:=lh _ _ _ _ q;rw[if_pos (by rw[aC];exact aB)]at G;refine(aq.put y0 aL (aM.mono λa O l=>?_) (eN A.1) (λb h=>by have:=h.2;omega) (by omega) B (by omega)).mono ?_
   ·rcases l.1 with l|l
    ·have:=m a l;omega
    ·omega
   ·rintro e bh ⟨X,rfl,Z⟩;obtain⟨a0,aS,bg,aY,aO,aQ,ad,y,J⟩:=Z.out;rw[if_pos G]at y;refine⟨X,_,rfl,λbe ap=>(J.block aV aw λa=>by have:=a.2;omega).trans ap,y.cells56,λa2 C=>?_⟩;have ay:=y.kept (ja C) λb a _ e=>by
     rcases a with a|a
     ·have:=a.2;omega
     ·omega
    obtain⟨z,v⟩:=ay.turned;refine⟨by simp[an],?_,y0,a0,aS,X,aY,aO,aQ,ad,z.mono (λb a=>?_) (by omega),λa=>(by cases a),λ_=>q⟩
    ·refine((((K.trans (aX d M) λ_ _ e=>e).trans J λb h a=>?_).trans (ja C) λb h a=>?_)).trans v λb h a=>?_
     ·rcases a.1 with a|a
      ·exact a
      ·omega
     ·omega
     ·rcases a with a|a
      ·rcases a.1 with a|a
       ·exact a
       ·omega
      ·omega
    ·rcases a with a|a
     ·rcases a.1 with a|a
      ·exact ah a
      ·exact ai (by omega)
     ·exact ai (by omega)
end
theorem fw{n:Nat}{x:Tm (n+1)}(g:bu (n+1) x=0){y:Tm n}(a:y∈x.2.2):bu n y=0:=by
 obtain⟨d,i,e⟩:=bw.1 g;have c:az ⟨n+1,x⟩:=aL.2 d;have j:=nB c a;have f:=eq (bA n x) (c (bA n x) (by simp[aw,bA]));have b:x.1.1=4:=by
  by_cases b:x.1.1=4
  ·exact b
  ·have:x.2.2=[]:=bH (f.2.2.2.2 b);rw[this]at a;cases a
 have h:=tp (λy=>1+sz n y) (λy=>by have:=(eE n y).1;omega) x.2.2 y a;simp only[sz,if_pos b]at e
 exact bw.2 ⟨aL.1 (aT n x y c a),by omega,by
  have k:1+sz n y<=(x.2.2.map λy=>1+sz n y).sum:=h.1
  omega⟩
theorem tP{n:Nat}{x:Tm (n+1)}(a:bu (n+1) x=0)(i:Nat){y:Tm n}(b:x.2.2[i]?=some y):bu n y=0:=fw a (aG b)
theorem pZ{n N:Nat}(c:n<=N)(x:Tm (n+1))(a:bu (N+1) (aO (N+1) (n+1) x)=0):bu (n+1) x=0:=by
 have e:az ⟨n+1,x⟩:=λb d=>(aL.2 (bw.1 a).1) b (by rw[mP N n c x];exact d);rw[<-bM (eZ (N+1) (n+1) (by omega) x e)];exact a
def pu{n:Nat}(c:Cl (n+1)):Prop:=bu (n+1) c.1.1=0/\bu (n+1) c.1.2.1=0/\bu (n+1) c.1.2.2=0/\c.2.2.length<=8/\∀a∈c.2.2,Mg a
theorem Ew{n:Nat}{p:List (Bh (n+1))}(d:nt n p=0):jY (n+1) p=true/\∀b∈p,b.2.2.length<=6/\∀c∈b.2.2,pu c:=by
 unfold nt at d;cases e:jY (n+1) p with
 | false=>rw[e]at d;cases d
 | true=>
  rw[e,if_pos rfl]at d;refine⟨rfl,λb l=>?_⟩;unfold jY at e;simp only[aA,b9]at e;have h:=e.2 b l;unfold vv at h;simp only[aA,b9,bU]at h;refine⟨by omega,λc m=>?_⟩;have i:=h.2 c m;unfold sQ at i;simp only[aA,b9,bU]at i;have o:bu (n+5) (dF n b)=0:=fw d (by simp only[bW,cX];exact bI _ (iQ l));have f:bu (n+4) (dw n c)=0:=fw o (by simp only[dF,cX];exact bI _ (bI _ (iQ m)));have s:bu (n+3) (cX (n+2) (c.2.2.map (bY n)))=0:=tP f 3 rfl;refine⟨pZ (N:=n+2) (by omega) _ (tP f 1 rfl),pZ (N:=n+2) (by omega) _ (tP f 2 rfl),pZ (N:=n+2) (by omega) _ (tP f 4 rfl),by omega,λj k=>?_⟩;have g:bu (n+2) (bY n j)=0:=fw s (by simp only[cX];exact iQ k);refine⟨i.2 j k,λr=>?_,λq=>?_⟩
  ·rcases r with a|a
   ·exact fw g (by simp[bY,a,cX])
   ·exact fw g (by simp[bY,a,cX])
  ·rcases q with a|a
   ·exact fw g (by simp[bY,a,cX])
   ·exact fw g (by simp[bY,a,cX])
section
variable {base db:Nat} {self:Int} {n D k:Nat} {nx:Int} {d:Dg} {w:World} {l:List (Tm (D+1))} {bg bc:Nat} {sd:List (Int×Tm (D+1+n+1))} {sp:List (Int×ByteArray×Tm (D+1+n+1))} {sv pv lv:Value}
theorem dW.kept(a:dW base db self n D k nx d w l bg bc sd sp sv pv lv){S:Nat->Prop}{w':World}(i:bq S w w')(m:∀b,base<=b->b<w.heap.size->¬S b):dW base db self n D k nx d w' l bg bc sd sp sv pv lv:=by
 have Q:=i.size;obtain⟨L,B,v,p,R⟩:=a.own;have s:∀{g:Nat}{y:Tm g},In w.heap.size w g y->bZ (Ke base db bg sv pv lv) g y->In w'.heap.size w' g y:=λG H=>G.kee (i.mono (T:=λb=>S b/\b<w.heap.size) λb E f=>⟨f,E⟩) (H.mono λf h (e:S f/\f<w.heap.size)=>m f h.1 e.2 e.1);have u:∀{q:TypeId}{e g:Nat}{x:Value}{z:List Value},w.ownsRow base q e x g z->w'.ownsRow base q e x g z:=λ{q e g x z} t=>bf t i λf h o=>by
  obtain⟨N,F⟩:=dV t f h;refine m f ?_ (aD.1 F).1 o;rcases t.2 with⟨r,_⟩|⟨C,cap,O,r,P,_⟩
  ·rw[r]at h;cases h
  ·rw[r]at h;have:C=f:=au h;omega
 refine⟨(i.block db a.lt (m db B a.lt)).trans a.box,⟨L,B,v,by omega,by omega⟩,a.bnd,a.tells,λJ M I=>?_,λK=>?_,u a.sRow,u a.pRow,u a.lRow,a.sIs,a.pIs,λe o=>?_,λe o=>?_,a.apart,a.few⟩
 ·obtain⟨j,b,c⟩:=a.row J M I;exact⟨j.kee i p (m bg v p),s b c,c⟩
 ·have A:=a.free K;unfold World.frozen? at A ⊢;rw[i.block bg p (m bg v p)];exact A
 ·obtain⟨j,b,c⟩:=a.sIn e o;exact⟨j,s b c,c⟩
 ·obtain⟨j,b,c⟩:=a.pIn e o;exact⟨j,s b c,c⟩
theorem dW.low(b:dW base db self n D k nx d w l bg bc sd sp sv pv lv):∀q,kS db bg sv pv lv q->q<w.heap.size:=by
 have c:∀{f:TypeId}{i g q:Nat}{e:Value}{h:List Value},w.ownsRow base f i e g h->e.ownBlock=some q->q<w.heap.size:=λ{f i g q e h} m a=>by
  obtain⟨o,j⟩:=dV m q a;exact(aD.1 j).1
 intro q a;rcases a with rfl|rfl|a|a|a
 ·exact b.lt
 ·exact b.own.2.2.2.1
 ·exact c b.sRow a
 ·exact c b.pRow a
 ·exact c b.lRow a
def Ny(u t:Nat)(name:ByteArray)(room:Int)(s:Tc)(ms:List Tc)(q:Nat)(M:Nat->Prop)(base db:Nat)(self:Int)(n D:Nat)(nx:Int)(c:Cl (n+1))(b:List Tc)(S:Nat->Prop)(w:World)(f:Int)(w':World):Prop:=
 f=(eO room self nx (cn 13 s) (cn 13 s) (ms.map (cn 13)) c b).fate/\bq (λa=>M a\/S a) w w'/\(∃j z r e y o p k,cC u t name room 13 j ms [] (q+402) (λa=>M a\/w.heap.size<=a) w' z r e y o p k/\cn 13 j=(eO room self nx (cn 13 s) (cn 13 s) (ms.map (cn 13)) c b).state)/\
  ((f=0\/f=1)->∃d m g l v x e i h,dW base db self n D 8 nx d w' m g l v x e i h/\d.sends=(eO room self nx (cn 13 s) (cn 13 s) (ms.map (cn 13)) c b).sends/\d.spawns=(eO room self nx (cn 13 s) (cn 13 s) (ms.map (cn 13)) c b).spawns/\d.links=(eO room self nx (cn 13 s) (cn 13 s) (ms.map (cn 13)) c b).links/\∀a,kS db g e i h a->¬(M a\/w'.heap.size<=a))
theorem M9{ms:List Tc}(a:∀y∈ms,bu 13 y=0):((ms.map (cn 13)).map (sz 13)).sum=(ms.map (sz 13)).sum:=by
 rw[fK];congr 1;exact jm λy b=>DY (a y b)
theorem Co{Q I:Nat}{name:ByteArray}{room:Int}{s:Tc}{ms:List Tc}{P:Nat}{M:Nat->Prop}{ws:List Wd}{nm:List ByteArray}{aq:Wd}{vs:List Wd}{ma:Option Addr}{al:Nat}{Mh:Nat->Prop}{b:List Tc}(a3:cC Q I name room 13 s ms [] P M w ws nm aq vs ma al Mh)(T:dW base db self n D 0 nx d w l bg bc sd sp sv pv lv)(aC:d=⟨b,nx,[],[],[],false⟩)(c:Cl (n+1))(aY:gO (n+1) base w c)(bn:pu c)(a4:1<=self/\self<=99)(L:∀q,M q->q<base)(bO:Q<=base)(bm:P<=48000)(bi:ms.length<=999):am 72 #[aF I,.agg (eK (n+1) c).toArray,aF db] w λe w'=>∃f,e=.returned (ab f)/\Ny Q I name room s ms P M base db self n D nx c b (kS db bg sv pv lv) w f w':=by
 obtain⟨bL,bN,aV,bd,be⟩:=bn;have aH:=T.own.2.2.2.2;have bk:∀{h:World},bq (kS db bg sv pv lv) w h->Below base w h:=λm=>m.below aH λb E q=>by
  have:=T.high b q;omega
 have aK:∀{h:World},bq (kS db bg sv pv lv) w h->cC Q I name room 13 s ms [] P M h ws nm aq vs ma al Mh:=λm=>a3.kept (N:=12) (ja m) λb E _ q=>by
  have:=L b E;have:=T.high b q;omega
 have aE:∀{h:World},bq (kS db bg sv pv lv) w h->bq (λq=>M q\/kS db bg sv pv lv q) w h:=λm=>m.mono λq _ a=>ai a;have bl:∀g∈ms,bu 13 g=0:=λg bv=>(a3.front.2.2.1 g (bI _ bv)).1
 refine Ai (D+1+n) c.1.1.1.1 c.1.1.1.2.1 c.1.1.1.2.2 c.1.1.2.1.1 c.1.1.2.2.length c.1.1.2.1.2 c.1.2.1.1.1 c.1.2.1.1.2.1 c.1.2.1.1.2.2 c.1.2.1.2.1.1 c.1.2.1.2.2.length c.1.2.1.2.1.2 c.2.1.1 c.2.2.length c.2.1.2 c.1.2.2.1.1 c.1.2.2.1.2.1 c.1.2.2.1.2.2 c.1.2.2.2.1.1 c.1.2.2.2.2.length c.1.2.2.2.1.2 I db w
  (λh=>bq (kS db bg sv pv lv) w h/\∃i x v u A B C z y,pE self c.2.2 d=some i/\dW base db self n D 8 nx i h x v u A B C z y)
  (λt g S=>∃h i x v u A B C z y,bq (kS db bg sv pv lv) w h/\pE self c.2.2 d=some i/\dW base db self n D 8 nx i h x v u A B C z y/\aj h S/\In S.heap.size S (D+1+n+1) g/\bZ (λq=>h.heap.size<=q) (D+1+n+1) g/\t=(rn i.b self (n+1) c.1.2.2).isSome/\∀r,rn i.b self (n+1) c.1.2.2=some r->bu _ g=0/\aJ _ g=true/\cn _ g=r)
  (Ny Q I name room s ms P M base db self n D nx c b (kS db bg sv pv lv) w) ?_ ?_ ?_ ?_
 ·intro h Y;refine((T.later Y).all c.2.2 c.2.1.1 c.2.1.2 ?_ be bd a4).mono ?_
  ·rcases aY.2.2 with e|⟨q,o,e,a,aZ⟩
   ·exact ah e
   ·exact ai ⟨q,o,e,a,λaR aU a1=>⟨λa6 bH bj=>(Y.cell (p:=⟨q,o+aR*11+a6,none⟩) (aN a aH)).trans ((aZ aR aU a1).1 a6 bH bj),((aZ aR aU a1).2).later (Y.mono aH)⟩⟩
  ·rintro e w' ⟨t,rfl,ay⟩;obtain⟨ar,J,aS⟩:=ay.out;have m:bq (kS db bg sv pv lv) w w':=(aI Y _).trans ar λ_ _ e=>e;refine⟨t,rfl,λq bR a a2=>(ar.block q (aD.1 a2).1 λk=>by have:=T.low q k;omega).trans a2,λG=>⟨m,?_⟩,λaa=>?_⟩
   ·rw[G]at J;obtain⟨aW,a0⟩:=gj.1 J.symm;obtain⟨bz,bb,ba,bD,bE,R,bB,bA,bx,_⟩:=aS aW a0;exact⟨aW,bz,bb,ba,bD,bE,R,bB,bA,a0,bx⟩
   ·rw[aa]at J;have Z:pE self c.2.2 d=none:=ku.1 (by rw[<-kv,<-J];rfl);rw[aC]at Z;have j:eO room self nx (cn 13 s) (cn 13 s) (ms.map (cn 13)) c b=⟨cn 13 s,2,[],[],[],cn 13 s,ms.map (cn 13)⟩:=by simp[eO,Z]
    refine⟨by rw[j],aE m,⟨s,ws,nm,aq,vs,ma,al,Mh,(aK m).mono (N:=12) (λq a=>ah a) (by omega),by rw[j]⟩,λk=>?_⟩;omega
 ·rintro h ⟨m,i,x,v,u,A,B,C,z,y,F,K⟩;obtain⟨bF,bG⟩:=K.told (self:=self) c.1.2.2 aV;refine(K.value c.1.2.2 (aY.1.2.2.below (bk m)) aV a4 h (ap _ _)).mono ?_;rintro e w' ⟨g,rfl,a9⟩;obtain⟨y1,y2,aT,W⟩:=a9.out;exact⟨g,_,rfl,h,i,x,v,u,A,B,C,z,y,m,F,K,y1,y2,aT,bF,λr G=>bG g r G W⟩
 ·rintro g S aA ⟨h,i,x,v,u,A,B,C,z,y,m,F,K,y1,_,_,W,_⟩ E;have Z:rn i.b self (n+1) c.1.2.2=none:=ku.1 (by rw[<-kv,<-W];rfl);rw[aC]at F;have j:eO room self nx (cn 13 s) (cn 13 s) (ms.map (cn 13)) c b=⟨cn 13 s,2,[],[],[],cn 13 s,ms.map (cn 13)⟩:=by simp[eO,F,Z]
  have U:bq (kS db bg sv pv lv) w aA:=(m.trans (aI y1 (λ_=>False)) λ_ _ e=>e.elim).trans (aI E (λ_=>False)) λ_ _ e=>e.elim;refine⟨by rw[j],aE U,⟨s,ws,nm,aq,vs,ma,al,Mh,(aK U).mono (N:=12) (λq a=>ah a) (by omega),by rw[j]⟩,λk=>?_⟩;omega
 ·rintro g S aA ⟨h,i,x,v,u,A,B,C,z,y,m,F,K,y1,y2,aT,W,bJ⟩ E;obtain⟨r,G⟩:=gj.1 W.symm;obtain⟨ax,bK,a8⟩:=bJ r G;rw[aC]at F;have bQ:=m.size;have bP:=y1.size;have bo:=E.size;have U:bq (kS db bg sv pv lv) w aA:=(m.trans (aI y1 (λ_=>False)) λ_ _ e=>e.elim).trans (aI E (λ_=>False)) λ_ _ e=>e.elim;have aQ:az ⟨D+1+n+1,g⟩:=aL.2 (bw.1 ax).1;have aP:fh (D+1+n+1) g<13:=by have:=(bw.1 ax).2.1;omega
  have ae:=jb 13 (D+1+n+1) g aQ aP;have bp:=rN 13 (D+1+n+1) g _ _ aQ aP ((y2.below E).mono bo);have bs:=tm 13 (D+1+n+1) g _ aQ aP aT;have br:(aO 13 (D+1+n+1) g).2.2.length=g.2.2.length:=by simp[aO]
  have a5:cn 13 (aO 13 (D+1+n+1) g)=r:=(gV ae).trans a8;have bt:sz 13 (aO 13 (D+1+n+1) g)=sz 13 r:=by
   rw[lh _ _ _ _ ae,<-a8,DY ax]
  have aX:=(aK U).become (N:=12) (aO 13 (D+1+n+1) g) bp (bs.mono λq a k=>by have:=L q k;omega) ((bM ae).trans ax) ((cw _ _ _ _ ae).trans bK) (λq k=>by have:=L q k;omega) bm bi (by omega);rw[br]at aX;refine aX.mono ?_;rintro e w' ⟨t,rfl,ay⟩;obtain⟨ar,J,au,aw,ao,R,av,af,an,X,aS,a7,bC⟩:=ay.out;have O:t=decide (((ms.map (cn 13)).map (sz 13)).sum+sz 13 r<=room):=by
   rw[M9 bl,<-bt];exact ar
  have aG:bq (λq=>M q\/kS db bg sv pv lv q) w w':=(aE U).trans (gX J) λq _ a=>ah a
  have aB:cC Q I name room 13 au ms [] (P+402) (λq=>M q\/w.heap.size<=q) w' aw ao R av af an X:=aS.mono (N:=12) (λq a=>by
   rcases a with a|a
   ·exact ah a
   ·exact ai (by omega)) (ak _)
  have H:dW base db self n D 8 nx i w' x v u A B C z y:=((K.later y1).later E).kept (gX J) λq a _ k=>by
   have:=L q k;omega
  refine⟨t,rfl,λaa=>?_,λad=>⟨i.stops,ag H.box 6,λaM=>?_,λaM=>?_⟩⟩
  ·rw[aa]at O;have V:¬((ms.map (cn 13)).map (sz 13)).sum+sz 13 r<=room:=of_decide_eq_false O.symm;have j:eO room self nx (cn 13 s) (cn 13 s) (ms.map (cn 13)) c b=⟨cn 13 s,3,[],[],[],cn 13 s,ms.map (cn 13)⟩:=by
    unfold eO;simp only[F,G];rw[if_neg V]
   refine⟨by rw[j],aG,⟨au,aw,ao,R,av,af,an,X,aB,by rw[j];exact gV (bC aa)⟩,λk=>?_⟩;omega
  ·rw[ad]at O;have V:((ms.map (cn 13)).map (sz 13)).sum+sz 13 r<=room:=fN O.symm;have j:eO room self nx (cn 13 s) (cn 13 s) (ms.map (cn 13)) c b=⟨cn 13 s,1,i.sends,i.spawns,i.links,r,ms.map (cn 13)⟩:=by
    unfold eO;simp only[F,G];rw[if_pos V,aM];rfl
   refine⟨by rw[j],aG,⟨au,aw,ao,R,av,af,an,X,aB,by rw[j,a7 ad];exact a5⟩,λ_=>⟨i,x,v,u,A,B,C,z,y,H,by rw[j],by rw[j],by rw[j],λq a k=>?_⟩⟩;have bf:=H.high q a;have bh:=H.low q a;rcases k with k|k
   ·have:=L q k;omega
   ·omega
  ·rw[ad]at O;have V:((ms.map (cn 13)).map (sz 13)).sum+sz 13 r<=room:=fN O.symm;have j:eO room self nx (cn 13 s) (cn 13 s) (ms.map (cn 13)) c b=⟨cn 13 s,0,i.sends,i.spawns,i.links,r,ms.map (cn 13)⟩:=by
    unfold eO;simp only[F,G];rw[if_pos V,aM];rfl
   refine⟨by rw[j],aG,⟨au,aw,ao,R,av,af,an,X,aB,by rw[j,a7 ad];exact a5⟩,λ_=>⟨i,x,v,u,A,B,C,z,y,H,by rw[j],by rw[j],by rw[j],λq a k=>?_⟩⟩;have bf:=H.high q a;have bh:=H.low q a;rcases k with k|k
   ·have:=L q k;omega
   ·omega
end
end Go.Proofs.YtckamaoibonjcaaGreat
