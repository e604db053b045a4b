/- What is proved here: plain facts and contracts that the claimed theorem stands on. No condition but those that each names. -/
import Derived.Test.YtmbjgiaebneodaaGreatG23
namespace Go.Proofs.YtmbjgiaebneodaaGreat
open Go.RowKit
section
variable {base db:Nat} {self:Int} {n D k:Nat} {nx:Int} {d:Dg} {w:World} {l:List (Tm (D+1))} {bg bc:Nat} {sd:List (Int×Tm (D+1+n+1))} {sp:List (Int×ByteArray×Tm (D+1+n+1))} {sv pv lv:Value}
theorem IS{N:Nat}{o:Option (Tm N)}{c:Tm N}(a:mj 0 o=some c):bv N c=0:=by
 unfold mj at a;rw[if_pos rfl]at a;obtain⟨d,_,a⟩:=bz.1 a;by_cases b:bv N d=0
 ·rw[if_pos b]at a;rw[<-aq a];exact b
 ·rw[if_neg b]at a;cases a
theorem dT.told(e:dT base db self n D k nx d w l bg bc sd sp sv pv lv)(x:Tm (n+1))(h:bv (n+1) x=0):(mj 0 (vl (D+1) l self (n+1) x)).isSome=(p8 d.b self (n+1) x).isSome/\∀(a:Tm (D+1+n+1)) t,p8 d.b self (n+1) x=some t->aw _ a (D+1+n+1) ((mj 0 (vl (D+1) l self (n+1) x)).getD (tW (D+1+n)))=true->bv _ a=0/\aF _ a=true/\cn _ a=t:=by
 have m:=GS e.bnd e.tells self x h;refine⟨by rw[<-m,Option.isSome_map],λa t f c=>?_⟩;have p:=Kq (Gb e.bnd e.tells) h f;rw[<-m]at f;obtain⟨q,o,rfl⟩:=cG.1 f;rw[o]at c;have c:aw _ a _ q=true:=c;have i:=(bI c).trans (IS o);have j:=ge c;refine⟨i,?_,j⟩;have g:=p.2.1;rw[<-j,qm i]at g;exact g
theorem dT.send(h:dT base db self n D k nx d w l bg bc sd sp sv pv lv)(a:Ac (n+1))(P:gE (n+1) base w a)(ah:bv (n+1) a.2.1.1=0)(Q:bv (n+1) a.2.1.2=0)(aa:a.1=1)(V:1<=self/\self<=99)(aG:k<=1000):Calls Tryz.prog 124 #[.pointer (some ⟨db,0,none⟩),Kw a] w λe w'=>∃t,e=.returned (.bool t)/\Hid (vz base db self n D k nx d a (ke db bg sv pv lv) w t w'):=by
 have U:=h.sRow;obtain⟨y,z,rfl⟩:=kY U;obtain⟨aB,aD,aF,Z⟩:=h.few;have s:sF self a d=(kS d.b self (n+1) a.2.1.1).bind λx=>(p8 d.b self (n+1) a.2.1.2).map λt=>{d with sends:=d.sends++ [(x,t)]}:=by
  simp[sF,aa]
 obtain⟨ak,al⟩:=h.told (self:=self) a.2.1.2 Q;refine(D6 (D+1+n) a.1 a.2.1.1.1.1 a.2.1.1.1.2.1 a.2.1.1.1.2.2 a.2.1.1.2.1.1 a.2.1.1.2.2.length a.2.1.1.2.1.2 a.2.1.2.1.1 a.2.1.2.1.2.1 a.2.1.2.1.2.2 a.2.1.2.2.1.1 a.2.1.2.2.2.length a.2.1.2.2.1.2 a.2.2.1 a.2.2.2 base db y sd.length z _ w (kS d.b self (n+1) a.2.1.1).isSome (λx=>∀A,kS d.b self (n+1) a.2.1.1=some A->x=A) (mj 0 (vl (D+1) l self (n+1) a.2.1.2)) (by omega) h.lt h.own.2.2.2.2 ⟨ab h.box 3,rP h.box 3⟩ U h.apart.1.1 (h.process a.2.1.1 P.2.1 ah V) (h.value a.2.1.2 P.2.2.1 Q V)).mono ?_;rintro e w' ⟨rfl,K,i⟩;refine⟨_,rfl,?_⟩;rw[ak]at K i ⊢;cases hp:kS d.b self (n+1) a.2.1.1 with
 | none=>
  have E:=K (by rw[hp];rfl);refine⟨aC E _,by rw[s,hp];rfl,λN p=>?_⟩;rw[s,hp]at p;cases p
 | some A=>
  cases g:p8 d.b self (n+1) a.2.1.2 with
  | none=>
   have E:=K (by rw[hp,g];rfl);refine⟨aC E _,by rw[s,hp,g];rfl,λN p=>?_⟩;rw[s,hp,g]at p;cases p
  | some t=>
   obtain⟨x,r,j,c,B,am,ar,ao,W,aj,q,m,rfl⟩:=i (by rw[hp,g];rfl);obtain rfl:=am A hp;obtain⟨an,_,au⟩:=al r t g ar;have ag:B.heap[db]?=_:=(q.block db h.lt λf=>h.apart.1.1 f).trans h.box;have I:bi (ke db bg (.slice y sd.length z) pv lv) w (B.setCell ⟨db,3,none⟩ (.slice (some ⟨j,0,none⟩) (sd.length+1) c)):=bi.trans (q.mono λf _ g=>af (af (ae g))) (bH _ _ _ _) λf _ g=>ae g;have v:∀f,f<w.heap.size->¬(Value.slice y sd.length z).ownBlock=some f->j≠f:=λf g ai e=>by
    rcases m with m|m
    ·rw[e]at m;exact ai m
    ·omega
   have O:∀f,ke db bg (.slice (some ⟨j,0,none⟩) (sd.length+1) c) pv lv f->ke db bg (.slice y sd.length z) pv lv f\/w.heap.size<=f:=λf g=>by
    rcases g with g|g|g|g|g
    ·exact ae (ae g)
    ·exact ae (af (ae g))
    ·have:j=f:=aq g;subst this;rcases m with m|m
     ·exact ae (af (af (ae m)))
     ·exact af m
    ·exact ae (af (af (af (ae g))))
    ·exact ae (af (af (af (af g))))
   obtain⟨ay,az,aA,aK⟩:=h.frame I O;refine⟨I,by rw[s,hp,g];rfl,λN p=>?_⟩;rw[s,hp,g]at p;obtain rfl:=aq p;have aH:=I.size;have aI:=q.size;obtain⟨L,aw,ax,M,aJ⟩:=h.own;have u:=bH B db 3 (.slice (some ⟨j,0,none⟩) (sd.length+1) c);have S:∀f,lv.ownBlock=some f->f<w.heap.size:=λf g=>by
    obtain⟨Y,G⟩:=dS h.lRow f g;exact(aE.1 G).1
   have T:∀f,pv.ownBlock=some f->f<w.heap.size:=λf g=>by
    obtain⟨Y,G⟩:=dS h.pRow f g;exact(aE.1 G).1
   have F:¬(Value.slice y sd.length z).ownBlock=some bg:=h.apart.2.1.1;have ap:cg (G7 base db bg (.slice (some ⟨j,0,none⟩) (sd.length+1) c) pv lv) _ r:=W.mono λf g=>by
    have:=h.lt;refine⟨by omega,λo=>?_⟩;rcases o with o|o|o|o|o
    ·omega
    ·omega
    ·exact g.2 (aq o).symm
    ·have:=T f o;omega
    ·have:=S f o;omega
   refine⟨l,bg,bc,sd++ [(x,r)],sp,_,pv,lv,⟨(mP ag).1 _,⟨L,aw,ax,by omega,by omega⟩,h.bnd,h.tells,λX C i=>⟨?_,ay X C i⟩,λav=>?_,?_,?_,?_,?_,h.pIs,λC i=>?_,aA,⟨⟨?_,h.apart.1.2.1,h.apart.1.2.2⟩,⟨?_,h.apart.2.1.2.1,h.apart.2.1.2.2⟩,λf=>⟨λg=>⟨λe=>?_,λe=>?_⟩,(h.apart.2.2 f).2⟩⟩,⟨by simp;omega,by omega,by show d.links.length<=k+1;omega,Z⟩⟩,O⟩
   ·exact((h.row X C i).1.kee q M F).kee u (by omega) (λe=>L e.symm)
   ·have ad:(B.setCell ⟨db,3,none⟩ (.slice (some ⟨j,0,none⟩) (sd.length+1) c)).heap[bg]?=w.heap[bg]? :=(u.block bg (by omega) (λe=>L e.symm)).trans (q.block bg M F);have R:=h.free av;unfold World.frozen? at R ⊢;rw[ad];exact R
   ·have:=aT aj u λf g e=>v db h.lt h.apart.1.1 (by
      have:j=f:=aq g
      rw[this,e])
    simpa using this
   ·exact aT (aT h.pRow q λf g J=>((h.apart.2.2 f).1 J).1 g) u λf g e=>h.apart.1.2.1 (by rw[g,e])
   ·exact aT (aT h.lRow q λf g J=>((h.apart.2.2 f).1 J).2 g) u λf g e=>h.apart.1.2.2 (by rw[g,e])
   ·simp[h.sIs,au]
   ·rcases dp.1 i with i|i
    ·exact az C i
    ·obtain rfl:=ed.1 i;refine⟨an,?_,ap⟩;refine ao.kee u (W.mono λf g e=>?_);have:=h.lt;omega
   ·exact λe=>v db h.lt h.apart.1.1 (aq e)
   ·exact λe=>v bg M F (aq e)
   ·have H:j=f:=aq g;exact v f (T f e) (λr=>((h.apart.2.2 f).1 r).1 e) H
   ·have H:j=f:=aq g;exact v f (S f e) (λr=>((h.apart.2.2 f).1 r).2 e) H
end
theorem mE(w:World)(g o:Nat)(v0 v1 v2 v3:Value):bi (λb=>b=g) w (cM w g o v0 v1 v2 v3):=
 bi.trans (bi.trans (bi.trans (bH w g o v0) (bH _ g (o+1) v1) λ_ _ a=>a) (bH _ g (o+2) v2) λ_ _ a=>a) (bH _ g (o+3) v3) λ_ _ a=>a
theorem yV{w:World}{g o:Nat}{v0 v1 v2 v3:Value}(j:Nat)(a:j<o\/o+4<=j):(cM w g o v0 v1 v2 v3).cell? ⟨g,j,none⟩=w.cell? ⟨g,j,none⟩:=by
 unfold cM;rw[dh j (by omega),dh j (by omega),dh j (by omega),dh j (by omega)]
theorem uZ{w:World}{g o:Nat}{f h i j:Value}(v0 v1 v2 v3:Value)(a:w.cell? ⟨g,o,none⟩=some f/\w.cell? ⟨g,o+1,none⟩=some h/\w.cell? ⟨g,o+2,none⟩=some i/\w.cell? ⟨g,o+3,none⟩=some j):(cM w g o v0 v1 v2 v3).cell? ⟨g,o,none⟩=some v0/\(cM w g o v0 v1 v2 v3).cell? ⟨g,o+1,none⟩=some v1/\(cM w g o v0 v1 v2 v3).cell? ⟨g,o+2,none⟩=some v2/\(cM w g o v0 v1 v2 v3).cell? ⟨g,o+3,none⟩=some v3:=by
 obtain⟨b,c,d,e⟩:=a;unfold cM;refine⟨?_,?_,?_,?_⟩
 ·rw[dh o (by omega),dh o (by omega),dh o (by omega)];exact iL _ _ _ b
 ·rw[dh (o+1) (by omega),dh (o+1) (by omega)];exact iL _ _ _ ((dh (o+1) (by omega)).trans c)
 ·rw[dh (o+2) (by omega)];exact iL _ _ _ ((dh (o+2) (by omega)).trans ((dh (o+2) (by omega)).trans d))
 ·exact iL _ _ _ ((dh (o+3) (by omega)).trans ((dh (o+3) (by omega)).trans ((dh (o+3) (by omega)).trans e)))
theorem rj{w:World}{g o:Nat}{v0 v1 v2 v3:Value}(j:Nat):(cM w g o v0 v1 v2 v3).frozen? ⟨g,j,none⟩=w.frozen? ⟨g,j,none⟩:=by
 unfold cM;rw[fH,fH,fH,fH]
theorem CX(w:World)(p:Addr):w.drew.cell? p=w.cell? p:=rfl
theorem xX(w:World)(p:Addr):w.drew.frozen? p=w.frozen? p:=rfl
theorem dk.far{w w':World}{g o:Nat}{n:Nat}{x:Tm n}(b:dk w g o n x)(a:∀j,o<=j->j<o+4->w'.cell? ⟨g,j,none⟩=w.cell? ⟨g,j,none⟩):dk w' g o n x:=by
 cases n with
 | zero=>exact b.elim
 | succ n=>
  obtain⟨c,d,e,f⟩:=b;exact⟨(a _ (by omega) (by omega)).trans c,(a _ (by omega) (by omega)).trans d,(a _ (by omega) (by omega)).trans e,(a _ (by omega) (by omega)).trans f⟩
theorem J7(u:Int)(D:Nat)(g:1<=u/\u<=99):yO (D+1) (aS 3 u D)=true/\cn (D+1) (aS 3 u D)=DO u:=by
 refine⟨?_,rfl⟩;have e:bO (D+1) (aS 3 u D)=true:=by
  rw[<-aI];intro a b;have:a=((3,u,.empty),(none,0,0)):=by simpa [ap,aS]using b
  subst this;have f:kC u 1 99=true:=by simp[kC];omega
  simp[bQ,f]
 have c:bv (D+1) (aS 3 u D)=0:=bt.2 ⟨e,by simp[eQ,aS],by simp[sz,aS]⟩;have d:aF (D+1) (aS 3 u D)=true:=by simp[aF,aS]
 simp only[yO,c,aB,gt];refine⟨rfl,af ?_⟩;rw[<-eN];exact d
theorem Hp{D:Nat}{l:List (Tm D)}(a:fy D l=true)(i:Nat){y:Tm D}(c:yO D y=true):fy D (l.set i y)=true:=by
 simp only[fy,List.length_set,aB,bV,bT]at a ⊢;refine⟨a.1,λd b=>?_⟩;rcases List.mem_or_eq_of_mem_set b with b|rfl
 ·exact a.2 d b
 ·exact c
section
variable {base db:Nat} {self:Int} {n D k:Nat} {nx:Int} {d:Dg} {w:World} {l:List (Tm (D+1))} {bg bc:Nat} {sd:List (Int×Tm (D+1+n+1))} {sp:List (Int×ByteArray×Tm (D+1+n+1))} {sv pv lv:Value}
theorem dT.spawn(h:dT base db self n D k nx d w l bg bc sd sp sv pv lv)(a:Ac (n+1))(aL:gE (n+1) base w a)(ai:bv (n+1) a.2.1.2=0)(aK:a.1=2)(aX:ch a.2.2.1=true)(bu:0<=a.2.2.2/\a.2.2.2<4)(aZ:1<=self/\self<=99)(bo:k<=7):Calls Tryz.prog 125 #[.pointer (some ⟨db,0,none⟩),Kw a] w λe w'=>∃t,e=.returned (.bool t)/\Hid (vz base db self n D k nx d a (ke db bg sv pv lv) w t w'):=by
 have ao:=h.pRow;obtain⟨M,N,rfl⟩:=kY ao;obtain⟨bj,bk,bl,bm,aI,aJ⟩:=h.few;obtain⟨m,Y⟩:∃m:Nat,a.2.2.2=(m:Int):=⟨a.2.2.2.toNat,by omega⟩;have a2:m<4:=by omega
 have bn:=(gd h.bnd).1;obtain⟨p,av⟩:∃p,l[m]?=some p:=⟨l[m]'(by omega),az _⟩;obtain⟨y1,y2,bB⟩:=h.row m p av;have aO:d.b[m]?=some (cn (D+1) p):=by rw[<-h.tells,df,av];rfl
 have F:sF self a d=(p8 d.b self (n+1) a.2.1.2).bind λt=>if p.1.1=6 then some {d with b:=d.b.set m (DO d.next),next:=d.next+1,spawns:=d.spawns++ [(d.next,a.2.2.1,t)]}else none:=by
  have aU:bD ⟨13,(d.b[a.2.2.2.toNat]?).getD (DO 0)⟩=p.1.1:=by
   rw[Y,Int.toNat_natCast,aO];rfl
  have aV:¬a.1=1:=by omega
  unfold sF;rw[if_neg aV,if_pos aK,aU,Y,Int.toNat_natCast]
 obtain⟨a0,a1⟩:=h.told (self:=self) a.2.1.2 ai
 have q:=Bq (D+1+n) a.1 a.2.1.1.1.1 a.2.1.1.1.2.1 a.2.1.1.1.2.2 a.2.1.1.2.1.1 a.2.1.1.2.2.length a.2.1.1.2.1.2 a.2.1.2.1.1 a.2.1.2.1.2.1 a.2.1.2.1.2.2 a.2.1.2.2.1.1 a.2.1.2.2.2.length a.2.1.2.2.1.2 a.2.2.1 m base db M sp.length N _ w (mj 0 (vl (D+1) l self (n+1) a.2.1.2)) bg bc d.next p.1.1 p.1.2.1 p.1.2.2 p.2.1.1 p.2.2.length p.2.1.2 a2 (by omega) h.lt h.own.2.2.2.1 h.own.1 h.own.2.2.2.2 (by omega) (by omega) (by
   simp only[ch,kC,aB,bV]at aX
   omega)
  ⟨ab h.box 4,ab h.box 0,ab h.box 2,λj=>rP h.box j,h.free⟩ ao ⟨h.apart.1.2.1,h.apart.2.1.2.1⟩ y1 (λaA=>il _ _ _ _ _ _ aA) (h.value a.2.1.2 aL.2.2.1 ai aZ)
 rw[<-Y]at q;refine q.mono ?_;rintro e w' ⟨rfl,X,aw⟩;refine⟨_,rfl,?_⟩;rw[a0]at X aw ⊢;cases f:p8 d.b self (n+1) a.2.1.2 with
 | none=>
  have T:=X (by rw[f];rfl);refine⟨aC T _,by rw[F,f];rfl,λS r=>?_⟩;rw[F,f]at r;cases r
 | some t=>
  by_cases E:p.1.1=6;rotate_left
  ·have T:=X (by rw[f];simp[E]);refine⟨aC T _,by rw[F,f];simp[E],λS r=>?_⟩;rw[F,f]at r;simp[E]at r
  ·obtain⟨y,g,c,ax,x,C,a8,a6,Q,aY,A,s,au,Z,ar⟩:=aw (by rw[f];simp[E]);obtain⟨a3,_,a9⟩:=a1 y t f a8;have aM:ax.heap[db]?=_:=(A.block db h.lt λi=>h.apart.1.2.1 i).trans h.box;obtain⟨G,ba,bb,R,bz⟩:=h.own;have bt:=A.size;have U:=(mP aM).2.1 (.slice (some ⟨g,0,none⟩) (sp.length+1) c);rw[<-au]at U;have u:bi (λb=>b=db) ax x:=by rw[au];exact bH _ _ _ _
   have B:bi (λb=>b=bg) x C:=by
    rw[Z];exact bi.trans (mE x bg (m*4) _ _ _ _) (aC ((ah _ _).drew) _) λ_ _ e=>e
   have aN:C.heap[db]?=_:=(B.block db (aE.1 U).1 G).trans U;have v:bi (λb=>b=db) C w':=by rw[ar];exact bH _ _ _ _
   have ag:=(mP aN).2.2.2.1 (.int .i64 (d.next+1));rw[<-ar]at ag;have bq:=u.size;have br:=B.size;have bs:=v.size;have al:bi (ke db bg sv (.slice M sp.length N) lv) w w':=bi.trans (bi.trans (bi.trans (A.mono λi _ f=>af (af (af (ae f)))) u λi _ f=>ae f) B λi _ f=>af (ae f)) v λi _ f=>ae f;have z:∀i,i<w.heap.size->¬(Value.slice M sp.length N).ownBlock=some i->g≠i:=λi f aW e=>by
    rcases s with s|s
    ·rw[e]at s;exact aW s
    ·omega
   have ad:∀i,ke db bg sv (.slice (some ⟨g,0,none⟩) (sp.length+1) c) lv i->ke db bg sv (.slice M sp.length N) lv i\/w.heap.size<=i:=λi f=>by
    rcases f with f|f|f|f|f
    ·exact ae (ae f)
    ·exact ae (af (ae f))
    ·exact ae (af (af (ae f)))
    ·have:g=i:=aq f;subst this;rcases s with s|s
     ·exact ae (af (af (af (ae s))))
     ·exact af s
    ·exact ae (af (af (af (af f))))
   obtain⟨bd,be,bf,bA⟩:=h.frame al ad;refine⟨al,by rw[F,f];simp[E],λS r=>?_⟩;rw[F,f]at r;have r:some {d with b:=d.b.set m (DO d.next),next:=d.next+1,spawns:=d.spawns++ [(d.next,a.2.2.1,t)]}=some S:=by simpa [E]using r
   obtain rfl:=aq r;have am:∀i,lv.ownBlock=some i->i<w.heap.size:=λi f=>by
    obtain⟨aD,V⟩:=dS h.lRow i f;exact(aE.1 V).1
   have ap:∀i,sv.ownBlock=some i->i<w.heap.size:=λi f=>by
    obtain⟨aD,V⟩:=dS h.sRow i f;exact(aE.1 V).1
   have O:¬(Value.slice M sp.length N).ownBlock=some bg:=h.apart.2.1.2.1;have a7:cg (G7 base db bg sv (.slice (some ⟨g,0,none⟩) (sp.length+1) c) lv) _ y:=Q.mono λi f=>by
    have:=h.lt;refine⟨by omega,λq=>?_⟩;rcases q with q|q|q|q|q
    ·omega
    ·omega
    ·have:=ap i q;omega
    ·exact f.2 (aq q).symm
    ·have:=am i q;omega
   have an:=J7 d.next D (by omega)
   -- the row of what is bound
   have H:∀j,x.cell? ⟨bg,j,none⟩=w.cell? ⟨bg,j,none⟩:=λj=>(u.cell j (by omega) (λe=>G e.symm)).trans (A.cell j R O);have J:∀j,w'.cell? ⟨bg,j,none⟩=C.cell? ⟨bg,j,none⟩:=λj=>v.cell j (by omega) (λe=>G e.symm);have I:∀j,C.cell? ⟨bg,j,none⟩=(cM x bg (m*4) (.int .i64 3) (.int .i64 d.next) (.string ⟨#[]⟩) (.slice none 0 0)).cell? ⟨bg,j,none⟩:=λj=>by
    rw[Z,CX]
   have aP:∀j,j<m*4\/m*4+4<=j->w'.cell? ⟨bg,j,none⟩=w.cell? ⟨bg,j,none⟩:=λj aR=>by
    rw[J,I,yV j aR];exact H j
   have P:=uZ (w:=x) (g:=bg) (o:=m*4) (.int .i64 3) (.int .i64 d.next) (.string ⟨#[]⟩) (.slice none 0 0) ⟨(H _).trans y1.1,(H _).trans y1.2.1,(H _).trans y1.2.2.1,(H _).trans y1.2.2.2⟩;refine⟨l.set m (aS 3 d.next D),bg,bc,sd,sp++ [(d.next,a.2.2.1,y)],sv,_,lv,⟨ag,⟨G,ba,bb,by omega,by omega⟩,Hp h.bnd m an.1,?_,λaa ay L=>?_,λj=>?_,?_,?_,?_,h.sIs,?_,be,λbh K=>?_,⟨⟨h.apart.1.1,?_,h.apart.1.2.2⟩,⟨h.apart.2.1.1,?_,h.apart.2.1.2.2⟩,λi=>⟨λf=>⟨λe=>?_,((h.apart.2.2 i).1 f).2⟩,λf e=>?_⟩⟩,⟨by omega,by simp;omega,by show d.links.length<=k+1;omega,by show d.next+1=nx+((sp++ [(d.next,a.2.2.1,y)]).length:Nat);simp;omega,aI,aJ⟩⟩,ad⟩
   ·rw[List.map_set,h.tells,an.2]
   ·by_cases aj:m=aa
    ·subst aj;rw[List.getElem?_set_self (by omega)]at L;obtain rfl:=aq L;have ak:=jR D 3 d.next (by unfold cY;omega) (by unfold cY;omega) w'.heap.size w' (G7 base db bg sv (.slice (some ⟨g,0,none⟩) (sp.length+1) c) lv);refine⟨⟨?_,?_,?_,?_⟩,ak.1,ak.2⟩
     ·rw[J,I];exact P.1
     ·rw[J,I];exact P.2.1
     ·rw[J,I];exact P.2.2.1
     ·rw[J,I];exact P.2.2.2
    ·rw[List.getElem?_set_ne aj]at L;exact⟨(h.row aa ay L).1.far λj bw bx=>aP j (by omega),bd aa ay L⟩
   ·have aH:w'.frozen? ⟨bg,j,none⟩=C.frozen? ⟨bg,j,none⟩:=by
      unfold World.frozen?;rw[v.block bg (by omega) (λe=>G e.symm)]
    have aG:C.frozen? ⟨bg,j,none⟩=x.frozen? ⟨bg,j,none⟩:=by
     rw[Z,xX,rj]
    have aF:x.frozen? ⟨bg,j,none⟩=w.frozen? ⟨bg,j,none⟩:=by
     unfold World.frozen?;rw[u.block bg (by omega) (λe=>G e.symm),A.block bg R O]
    rw[aH,aG,aF];exact h.free j
   ·refine aT (aT (aT (aT h.sRow A λi f W=>((h.apart.2.2 i).1 f).1 W) u λi f e=>h.apart.1.1 (by rw[f,e])) B λi f e=>h.apart.2.1.1 (by rw[f,e])) v λi f e=>h.apart.1.1 (by rw[f,e])
   ·have:=aT (aT (aT aY u λi f e=>z db h.lt h.apart.1.2.1 (by
      have:g=i:=aq f
      rw[this,e])) B λi f e=>z bg R O (by
      have:g=i:=aq f
      rw[this,e])) v λi f e=>z db h.lt h.apart.1.2.1 (by
      have:g=i:=aq f
      rw[this,e])
    simpa using this
   ·refine aT (aT (aT (aT h.lRow A λi f W=>(h.apart.2.2 i).2 W f) u λi f e=>h.apart.1.2.2 (by rw[f,e])) B λi f e=>h.apart.2.1.2.2 (by rw[f,e])) v λi f e=>h.apart.1.2.2 (by rw[f,e])
   ·simp[h.pIs,a9]
   ·rcases dp.1 K with K|K
    ·exact bf bh K
    ·obtain rfl:=ed.1 K;have bp:=h.lt;have a4:=a6.kee u (Q.mono λi f e=>by omega);have a5:=a4.kee B (Q.mono λi f e=>by omega);exact⟨a3,a5.kee v (Q.mono λi f e=>by omega),a7⟩
   ·exact λe=>z db h.lt h.apart.1.2.1 (aq e)
   ·exact λe=>z bg R O (aq e)
   ·exact z i (ap i f) (λy=>((h.apart.2.2 i).1 f).1 y) (aq e)
   ·have aQ:g=i:=aq f;exact z i (am i e) (λy=>(h.apart.2.2 i).2 y e) aQ
end
def Jx{n:Nat}(a:Ac (n+1)):Prop:=lE (n+1) a=true/\(a.1=1\/a.1=3->bv (n+1) a.2.1.1=0)/\(a.1=1\/a.1=2->bv (n+1) a.2.1.2=0)
theorem ou(self:Int){n:Nat}:(p q:List (Ac (n+1)))->(d:Dg)->qq self (p++q) d=(qq self p d).bind (qq self q)
 | [],_,_=>rfl
 | a::p,q,d=>by
  simp only[fB,qq];cases sF self a d with
  | none=>rfl
  | some b=>exact ou self p q b
theorem Ff(self:Int){n:Nat}{l:List (Ac (n+1))}{i:Nat}{a:Ac (n+1)}(b:l[i]?=some a)(d:Dg):qq self (l.take (i+1)) d=(qq self (l.take i) d).bind (sF self a):=by
 rw[dz,b,ou];congr 1;funext x;show qq self [a] x=sF self a x;simp only[qq];cases sF self a x<;>rfl
theorem Fc(self:Int){n:Nat}{l:List (Ac (n+1))}{i:Nat}{d:Dg}(a:qq self (l.take i) d=none):qq self l d=none:=by
 rw[<-jC i l,ou,a];rfl
section
variable {base db:Nat} {self:Int} {n D k:Nat} {nx:Int} {d:Dg} {w:World} {l:List (Tm (D+1))} {bg bc:Nat} {sd:List (Int×Tm (D+1+n+1))} {sp:List (Int×ByteArray×Tm (D+1+n+1))} {sv pv lv:Value}
theorem vz.from{a:Ac (n+1)}{S:Nat->Prop}{W w':World}{t:Bool}(b:vz base db self n D k nx d a S W t w')(c:Below w.heap.size w W):vz base db self n D k nx d a S w t w':=⟨(aC c S).trans b.1 λ_ _ e=>e,b.2.1,λh l=>by
 obtain⟨o,g,f,s,u,v,r,p,i,j⟩:=b.2.2 h l;refine⟨o,g,f,s,u,v,r,p,i,λq m=>?_⟩;rcases j q m with e|e
 ·exact ae e
 ·have:=c.size
  exact af (by omega)⟩
theorem gE.later{B:Nat}{a:Ac (n+1)}{W:World}(b:gE (n+1) B w a)(c:Below B w W):gE (n+1) B W a:=⟨b.1,b.2.1.below c,b.2.2.1.below c,b.2.2.2⟩
theorem dT.stop(a:dT base db self n D k nx d w l bg bc sd sp sv pv lv):Do base db self n D (k+1) nx {d with stops:=true} (ke db bg sv pv lv) w (w.setCell ⟨db,6,none⟩ (.bool true))/\bi (ke db bg sv pv lv) w (w.setCell ⟨db,6,none⟩ (.bool true)):=by
 have e:=bH w db 6 (.bool true);obtain⟨t,u,v,C⟩:=a.frame (w':=w.setCell ⟨db,6,none⟩ (.bool true)) (e.mono λf _ b=>ae b) λf c=>ae c;obtain⟨g,r,s,m,B⟩:=a.own;have A:=e.size;obtain⟨x,y,z,p⟩:=a.few;refine⟨⟨l,bg,bc,sd,sp,sv,pv,lv,⟨(mP a.box).2.2.2.2 _,⟨g,r,s,by omega,by omega⟩,a.bnd,a.tells,λj o i=>⟨(a.row j o i).1.kee e m (λb=>g b.symm),t j o i⟩,λq=>?_,aT a.sRow e λf c b=>a.apart.1.1 (by rw[c,b]),aT a.pRow e λf c b=>a.apart.1.2.1 (by rw[c,b]),aT a.lRow e λf c b=>a.apart.1.2.2 (by rw[c,b]),a.sIs,a.pIs,u,v,a.apart,⟨by omega,by omega,by show d.links.length<=k+1;omega,p⟩⟩,λf c=>ae c⟩,e.mono λf _ b=>ae b⟩;have h:=a.free q;unfold World.frozen? at h ⊢;rw[e.block bg m (λb=>g b.symm)];exact h
theorem dT.one(c:dT base db self n D k nx d w l bg bc sd sp sv pv lv)(a:Ac (n+1))(m:gE (n+1) base w a)(A:Jx a)(p:1<=self/\self<=99)(y:k<=7):Calls Tryz.prog 102 #[.pointer (some ⟨db,0,none⟩),Kw a] w λe w'=>∃t,e=.returned (.bool t)/\Hid (vz base db self n D k nx d a (ke db bg sv pv lv) w t w'):=by
 obtain⟨f,r,s⟩:=A;have o:=c.own.2.2.2.2;refine FU a.1 a.2.1.1.1.1 a.2.1.1.1.2.1 a.2.1.1.1.2.2 a.2.1.1.2.1.1 a.2.1.1.2.2.length a.2.1.1.2.1.2 a.2.1.2.1.1 a.2.1.2.1.2.1 a.2.1.2.1.2.2 a.2.1.2.2.1.1 a.2.1.2.2.2.length a.2.1.2.2.1.2 a.2.2.1 a.2.2.2 db w (vz base db self n D k nx d a (ke db bg sv pv lv) w) c.lt ⟨d.stops,ab c.box 6,rP c.box 6⟩ ?_ ?_ ?_ ?_
 ·intro i h b;refine((c.later b).send a (m.later (b.mono o)) (r (ae i)) (s (ae i)) i p (by omega)).mono ?_;rintro e w' ⟨t,rfl,g⟩;exact⟨t,rfl,g.out.from b⟩
 ·intro j h b;have x:ch a.2.2.1=true/\0<=a.2.2.2/\a.2.2.2<4:=by
   have z:¬a.1=1:=by omega
   unfold lE at f;rw[if_neg z,if_pos j]at f;simp only[aB,bV]at f;exact⟨f.1.1.2,f.1.2,f.2⟩
  refine((c.later b).spawn a (m.later (b.mono o)) (s (af j)) j x.1 x.2 p y).mono ?_;rintro e w' ⟨t,rfl,g⟩;exact⟨t,rfl,g.out.from b⟩
 ·intro q h b;refine((c.later b).link a (m.later (b.mono o)) (r (af q)) q p (by omega)).mono ?_;rintro e w' ⟨t,rfl,g⟩;exact⟨t,rfl,g.out.from b⟩
 ·intro B C E h b;have u:sF self a d=some {d with stops:=true}:=by
   unfold sF;rw[if_neg B,if_neg C,if_neg E]
  obtain⟨F,G⟩:=(c.later b).stop;refine vz.from ⟨G,by rw[u];rfl,λH v=>?_⟩ b;rw[u]at v;obtain rfl:=aq v;exact F
theorem dT.all(H:dT base db self n D 0 nx d w l bg bc sd sp sv pv lv)(ac:List (Ac (n+1)))(L:Option Addr)(U:Nat)(O:nX base w 11 (fm (n+1)) (gE (n+1) base w) L ac)(ad:∀a∈ac,Jx a)(X:ac.length<=8)(ah:1<=self/\self<=99):Calls Tryz.prog 82 #[.pointer (some ⟨db,0,none⟩),.slice L ac.length U] w λe w'=>∃t,e=.returned (.bool t)/\Hid (bi (ke db bg sv pv lv) w w'/\t=(qq self ac d).isSome/\∀g,qq self ac d=some g->Do base db self n D 8 nx g (ke db bg sv pv lv) w w'):=by
 have ab:=H.own.2.2.2.2;have R:∀{c:World},bi (ke db bg sv pv lv) w c->Below base w c:=λj=>j.below ab λb Y k=>by
  have:=H.high b k;omega
 refine(EQ ac L ac.length U db w (λi c=>bi (ke db bg sv pv lv) w c/\∃g,qq self (ac.take i) d=some g/\Do base db self n D i nx g (ke db bg sv pv lv) w c) (λc=>bi (ke db bg sv pv lv) w c/\qq self ac d=none) (by omega) rfl ?_ ?_ ?_ ?_).mono ?_
 ·rintro i a c h ⟨j,_⟩;rcases O with e|⟨b,o,e,S,J⟩
  ·rw[e]at h;simp at h
  ·exact⟨b,o,e,λT av aa=>((R j).cell (p:=⟨b,o+i*11+T,none⟩) S).trans ((J i a h).1 T av aa)⟩
 ·rintro i c aw ⟨j,g,I,z,x,v,C,E,F,B,A,q,m⟩ N;exact⟨j.trans (aC N (λ_=>False)) λ_ _ e=>e.elim,g,I,z,x,v,C,E,F,B,A,q.later N,m⟩
 ·rintro i a c h ⟨j,g,I,z,x,v,C,E,F,B,A,q,m⟩;have ay:=(aK.1 h).1;have Z:gE (n+1) base c a:=by
   rcases O with e|⟨b,o,e,S,J⟩
   ·rw[e]at h;simp at h
   ·exact((J i a h).2).later (R j)
  refine(q.one a Z (ad a (ax h)) ah (by omega)).mono ?_;rintro e w' ⟨t,rfl,u⟩;obtain⟨s,f,M⟩:=u.out;have y:=Ff self h d;rw[I]at y;simp only[dr]at y;have Q:bi (ke db bg sv pv lv) w w':=j.trans s λb Y k=>by
   rcases m b k with e|e
   ·exact e
   ·omega
  refine⟨t,rfl,λaj=>⟨Q,?_⟩,λai=>⟨Q,?_⟩⟩
  ·rw[aj]at f;obtain⟨G,r⟩:=gA.1 f.symm;obtain⟨am,W,V,ap,ar,au,ao,an,ak,al⟩:=M G r;refine⟨G,by rw[y,r],am,W,V,ap,ar,au,ao,an,ak,λk K=>?_⟩;rcases al k K with e|e
   ·exact m k e
   ·have:=j.size;exact af (by omega)
  ·rw[ai]at f;refine Fc self (i:=i+1) ?_;rw[y];exact jE.1 (by rw[<-jG,<-f];rfl)
 ·exact⟨bi.refl _ _,d,rfl,l,bg,bc,sd,sp,sv,pv,lv,H,λk K=>ae K⟩
 ·rintro e w' ⟨t,rfl,u⟩;refine⟨t,rfl,?_⟩;cases t
  ·obtain⟨s,f⟩:=u.out.2 rfl;refine⟨s,by rw[f];rfl,λg P=>?_⟩;rw[f]at P;cases P
  ·obtain⟨s,g,f,M⟩:=u.out.1 rfl;rw[bk (ag _)]at f;refine⟨s,by rw[f];rfl,λG r=>?_⟩;rw[f]at r;obtain rfl:=aq r;obtain⟨z,x,v,C,E,F,B,A,q,m⟩:=M;exact⟨z,x,v,C,E,F,B,A,q.more X,m⟩
end
theorem Ck(N:Nat):bv (N+1) (aS 1 0 N)=0/\aF (N+1) (aS 1 0 N)=true/\sz (N+1) (aS 1 0 N)=0:=by
 have c:bO (N+1) (aS 1 0 N)=true:=by
  rw[<-aI];intro a b;have:a=((1,0,.empty),(none,0,0)):=by simpa [ap,aS]using b
  subst this;simp[bQ,kC]
 exact⟨bt.2 ⟨c,by simp[eQ,aS],by simp[sz,aS]⟩,by simp[aF,aS],by simp[sz,aS]⟩
theorem yJ{ws:List Wd}{nm:List ByteArray}{N:Nat}:dw ws nm (N+1) (aS 1 0 N) (1,0):=⟨λa=>by simp[aS]at a,λa=>by simp[aS]at a,λ_ _=>rfl⟩
theorem je.numb{N:Nat}{ws:List Wd}{nm:List ByteArray}{room:Int}{r:Wd}{h:List Wd}{s:Tm (N+1)}{g:List (Tm (N+1))}(i:je (N+1) ws nm room (r::h) (s::g)):je (N+1) ws nm room ((1,0)::h) (aS 1 0 N::g):=by
 obtain⟨e,f,j,k,l,m,n,o⟩:=i;obtain⟨p,q,u⟩:=Ck N;refine⟨⟨by simpa using e.1,λc t d b a=>?_⟩,?_,λd a=>?_,?_,l,m,n,o⟩
 ·cases c with
  | zero=>
   simp only[cE,jH]at b a;subst b a;exact yJ
  | succ c=>exact e.2 (c+1) t d (by simpa using b) (by simpa using a)
 ·simp only[bj]at f ⊢;rw[kT (by decide),List.nil_append];exact(eL.1 f).2.1
 ·rcases bF.1 a with rfl|a
  ·exact⟨p,q⟩
  ·exact j d (bU _ a)
 ·simp only[aJ,br]at k ⊢;have:=(ex (N+1) s).1;omega
theorem je.turned{N:Nat}{ws:List Wd}{nm:List ByteArray}{room:Int}{C v:Wd}{vs:List Wd}{s x:Tm (N+1)}{ms:List (Tm (N+1))}(n:je (N+1) ws nm room (C::vs++ [v]) (s::ms++ [x]))(f:vs.length=ms.length):je (N+1) ws nm room (v::vs) (x::ms):=by
 obtain⟨g,h,u,w,y,z,A,B⟩:=n;refine⟨⟨by simp[f],λd D e c a=>?_⟩,?_,λe a=>u e ?_,?_,y,z,A,B⟩
 ·cases d with
  | zero=>
   simp only[cE,jH]at c a;subst c a;exact g.2 (vs.length+1) v x (by simp) (by simp[f])
  | succ d=>
   simp only[cP]at c a;have o:=(aK.1 c).1;have p:=(aK.1 a).1;exact g.2 (d+1) D e (by rw[fB,cP,cV o];exact c) (by rw[fB,cP,cV p];exact a)
 ·simp only[fB,bj,jA,List.flatMap_nil,dL]at h ⊢;obtain⟨_,t,_⟩:=eL.1 h;obtain⟨j,k,l⟩:=eL.1 t;exact eL.2 ⟨k,j,λi q b r m=>l b r i q m.symm⟩
 ·rcases bF.1 a with rfl|a
  ·simp
  ·simp[a]
 ·simp only[fB,aJ,gu,br,List.sum_append,bP,iI]at w ⊢;have:=(ex (N+1) s).1;omega
theorem pR(w:World)(c:Nat)(a b:Int):bC (λq=>q=c) w (rW w c a b):=(aX w c 5 (.int .i64 a)).trans (aX _ c 6 (.int .i64 b)) λ_ _ e=>e
theorem Gq(w:World)(c:Nat)(a b:Int):(rW w c a b).heap.size=w.heap.size:=by simp[rW,World.setCell]
theorem gh{S:Nat->Prop}{w w':World}(a:bC S w w'):bi S w w':=⟨a.os,a.tape,a.output,a.size,a.block⟩
theorem im{S:Nat->Prop}{w w':World}(a:bi S w w'):bC S w w':=⟨a.os,a.tape,a.output,a.size,a.block⟩
section
variable {base pb:Nat} {name:ByteArray} {room:Int} {N:Nat} {s:Tm (N+1)} {ms:List (Tm (N+1))} {xs:List (Wd×Tm (N+1))} {nk:Nat} {M:Nat->Prop} {w:World} {ws:List Wd} {nm:List ByteArray} {sv:Wd} {vs:List Wd} {ma:Option Addr} {mc:Nat} {Mh:Nat->Prop}
theorem iP.keptBox{v:Wd}(h:iP Mh ma vs mc w)(i:Mh pb):iP Mh ma vs mc (rW w pb v.1 v.2):=by
 rcases h with a|⟨d,j,e,f,b,c,g⟩
 ·exact ae a
 ·exact af ⟨d,j,e,f,b,((pR w pb v.1 v.2).block d (aE.1 c).1 λa=>b (by rw[a];exact i)).trans c,g⟩
theorem du.word{mv:Value}{v:Wd}(a:du base (PL pb name sv mv) room ws nm M w):du base (PL pb name v mv) room ws nm M (rW w pb v.1 v.2):=a.turn (pR w pb v.1 v.2) λtv lv mp b=>by
 unfold rW World.setCell;simp[bK,b]
theorem cd.numb(a:cd base pb name room (N+1) s ms [] nk M w ws nm sv vs ma mc Mh):cd base pb name room (N+1) (aS 1 0 N) ms [] nk M (rW w pb 1 0) ws nm (1,0) vs ma mc Mh/\bC M w (rW w pb 1 0):=by
 obtain⟨d,f⟩:=a.box0;have c:=a.has;simp only[bP,dL]at c;refine⟨⟨a.heap.word (v:=(1,0)),a.mail.keptBox (v:=(1,0)) d,?_,a.len,a.names,a.inM,a.mailM⟩,(pR w pb 1 0).mono λb e=>?_⟩
 ·simp only[bP,dL];exact c.numb
 ·rw[e];exact a.inM pb d
theorem cd.turned{v:Wd}{x:Tm (N+1)}(a:cd base pb name room (N+1) s ms [(v,x)] nk M w ws nm sv vs ma mc Mh):cd base pb name room (N+1) x ms [] nk M (rW w pb v.1 v.2) ws nm v vs ma mc Mh/\bC M w (rW w pb v.1 v.2):=by
 obtain⟨d,f⟩:=a.box0;have c:=a.has;simp only[aJ,bP]at c;refine⟨⟨a.heap.word,a.mail.keptBox d,?_,a.len,a.names,a.inM,a.mailM⟩,(pR w pb v.1 v.2).mono λb e=>?_⟩
 ·simp only[bP,dL];exact c.turned a.len
 ·rw[e];exact a.inM pb d
theorem cd.cells56(e:cd base pb name room (N+1) s ms xs nk M w ws nm sv vs ma mc Mh):(∃a,w.cell? ⟨pb,5,none⟩=some (.int .i64 a))/\(∃a,w.cell? ⟨pb,6,none⟩=some (.int .i64 a))/\∀j,w.frozen? ⟨pb,j,none⟩=false:=by
 obtain⟨i,g,h,f,_⟩:=e.heap.box;obtain⟨_,b,c,_,d,_⟩:=PL.cells f;exact⟨⟨_,b⟩,⟨_,c⟩,d⟩
def Kz(base pb:Nat)(name:ByteArray)(room:Int)(N:Nat)(s:Tm (N+1))(ms:List (Tm (N+1)))(x:Tm (N+1))(nk:Nat)(M:Nat->Prop)(w:World)(t:Bool)(w':World):Prop:=
 t=decide ((ms.map (sz (N+1))).sum+sz (N+1) x<=room)/\bC M w w'/\∃a i f g h d e c,cd base pb name room (N+1) a ms [] (nk+402) (λb=>M b\/w.heap.size<=b) w' i f g h d e c/\(t=true->a=x)/\(t=false->aw (N+1) a (N+1) s=true)
theorem vb{x:Tm (N+1)}{ms:List (Tm (N+1))}(a:bv (N+1) x=0)(b:aF (N+1) x=true):qy (N+1) x room (aS 1 0 N::ms)=if (ms.map (sz (N+1))).sum+sz (N+1) x<=room then 0 else 6:=by
 unfold qy;rw[if_neg (by simp[a]),if_neg (by simp[b])];simp only[aJ,br,(Ck N).2.2,Int.zero_add]
theorem cd.become(k:cd base pb name room (N+1) s ms [] nk M w ws nm sv vs ma mc Mh)(x:Tm (N+1))(az:In w.heap.size w (N+1) x)(L:cg (λb=>¬M b) (N+1) x)(E:bv (N+1) x=0)(ah:aF (N+1) x=true)(m:∀b,M b->b<w.heap.size)(a2:nk<=48000)(B:ms.length<=999)(a1:base<=w.heap.size):Calls Tryz.prog 84 #[.pointer (some ⟨pb,0,none⟩),.agg #[.int .i64 x.1.1,.int .i64 x.1.2.1,.string x.1.2.2,.slice x.2.1.1 x.2.2.length x.2.1.2]] w λe w'=>∃t,e=.returned (.bool t)/\Hid (Kz base pb name room N s ms x nk M w t w'):=by
 obtain⟨an,ao⟩:=k.box0;have a0:M pb:=k.inM pb an;have u:=k.front;have P:=u.2.2.1 s (by simp);have ax:(ms.map (sz (N+1))).sum+sz (N+1) s<=room:=by
  have ag:=u.2.2.2.1;have aZ:=u.2.2.2.2.1;simp only[aJ,br]at ag;omega
 refine xB x.1.1 x.1.2.1 x.1.2.2 x.2.1.1 x.2.2.length x.2.1.2 pb w (λT U V sa sl sc f=>∃y0:Tm (N+1),(T=y0.1.1/\U=y0.1.2.1/\V=y0.1.2.2/\sa=y0.2.1.1/\sl=y0.2.2.length/\sc=y0.2.1.2)/\In f.heap.size f (N+1) y0/\cg (λa=>w.heap.size<=a) (N+1) y0/\aw (N+1) y0 (N+1) s=true) (λ_ _ _ _=>True) (Kz base pb name room N s ms x nk M w) ?_ ?_ ?_
 ·intro f d;refine((k.later d).state (by omega)).mono ?_;rintro e w' ⟨aW,rfl,o⟩;exact⟨_,_,_,_,_,_,rfl,o.out.1,aW,⟨rfl,rfl,rfl,rfl,rfl,rfl⟩,o.out.2.1,o.out.2.2.1.mono λa O=>by have:=d.size;omega,o.out.2.2.2⟩
 ·intro f d;obtain⟨ad,b,c⟩:=(k.later d).cells56;exact⟨ad,b,c,ao⟩
 ·rintro T U V sa sl sc aY j aO aP ⟨y0,⟨rfl,rfl,rfl,rfl,rfl,rfl⟩,Q,R,q⟩ D r a3 a4 p;have a6:=r.size;obtain⟨ak,I⟩:=(k.later r).numb;have a8:=Gq j pb 1 0;have H:bC M w (rW j pb 1 0):=(aR r M).trans I λ_ _ e=>e;have aA:In (rW j pb 1 0).heap.size (rW j pb 1 0) (N+1) x:=az.kee (gh H) L;have ap:=ak.put x aA L (eO E) (λb h=>by have:=m b h;omega) (by omega) B (by omega);refine ap.mono ?_;rintro e w' ⟨W,rfl,Y⟩;obtain⟨aU,aM,ba,aS,aH,aK,aa,i,n⟩:=Y.out;have F:=vb (room:=room) (ms:=ms) E ah;have K:bC M w w':=H.trans n λ_ _ e=>e;have a7:=n.size;refine⟨W,_,rfl,⟨?_,?_,i.cells56.1,i.cells56.2.1,i.cells56.2.2⟩,trivial,?_,?_⟩
  ·exact(n.block aO (aE.1 p.1).1 λa=>by have:=m _ a;omega).trans p.1
  ·exact(n.block aP (aE.1 p.2.1).1 λa=>by have:=m _ a;omega).trans p.2.1
  ·intro g f d;rw[if_pos g]at i;obtain⟨z,v⟩:=(i.later d).turned;rw[F]at g;have ai:(ms.map (sz (N+1))).sum+sz (N+1) x<=room:=by
    by_cases a:(ms.map (sz (N+1))).sum+sz (N+1) x<=room
    ·exact a
    ·rw[if_neg a]at g;cases g
   refine⟨by simp[ai],(K.trans (aR d M) λ_ _ e=>e).trans v λb h a=>?_,x,aU,aM,W,aS,aH,aK,aa,z.mono (λb a=>?_) (by omega),λ_=>rfl,λa=>by cases a⟩
   ·rcases a with a|a
    ·exact a
    ·omega
   ·rcases a with a|a
    ·exact ae a
    ·exact af (by omega)
  ·intro g f aQ d a5 aq;rw[if_neg g]at i;have aj:¬(ms.map (sz (N+1))).sum+sz (N+1) x<=room:=λa=>g (by rw[F,if_pos a]);have am:=(i.inside.later d);have av:=d.size;have aG:=In.offB R Q;have au:=D.size;have A:bv (N+1) y0=0/\aF (N+1) y0=true:=⟨(bI q).trans P.1,(cw _ _ _ _ q).trans P.2⟩;have aB:In j.heap.size j (N+1) y0:=(Q.below D).mono au;have S:cg (λb=>¬M b) (N+1) y0:=R.mono λa O l=>by have:=m a l;omega
   have aC:In w'.heap.size w' (N+1) y0:=(aB.kee (gh I) S).kee (gh n) S;have aD:In f.heap.size f (N+1) y0:=(aC.below d).mono av;have G:=vb (room:=room) (ms:=ms) A.1 A.2;have ay:=ku _ _ _ _ q;rw[if_pos (by rw[ay];exact ax)]at G;refine(am.put y0 aD (aG.mono λa O l=>?_) (eO A.1) (λb h=>by have:=h.2;omega) (by omega) B (by omega)).mono ?_
   ·rcases l.1 with l|l
    ·have:=m a l;omega
    ·omega
   ·rintro e bc ⟨X,rfl,Z⟩;obtain⟨aV,aN,bb,aT,aI,aL,ab,y,J⟩:=Z.out;rw[if_pos G]at y;refine⟨X,_,rfl,λa9 al=>(J.block aQ aq λa=>by have:=a.2;omega).trans al,y.cells56,λaX C=>?_⟩;have ar:=y.kept (im C) λb a _ e=>by
     rcases a with a|a
     ·have:=a.2;omega
     ·omega
    obtain⟨z,v⟩:=ar.turned;refine⟨by simp[aj],?_,y0,aV,aN,X,aT,aI,aL,ab,z.mono (λb a=>?_) (by omega),λa=>(by cases a),λ_=>q⟩
    ·refine((((K.trans (aR d M) λ_ _ e=>e).trans J λb h a=>?_).trans (im C) λb h a=>?_)).trans v λb h a=>?_
     ·rcases a.1 with a|a
      ·exact a
      ·omega
     ·omega
     ·rcases a with a|a
      ·rcases a.1 with a|a
       ·exact a
       ·omega
      ·omega
    ·rcases a with a|a
     ·rcases a.1 with a|a
      ·exact ae a
      ·exact af (by omega)
     ·exact af (by omega)
end
theorem ij{n:Nat}{x:Tm (n+1)}(g:bv (n+1) x=0){y:Tm n}(a:y∈x.2.2):bv n y=0:=by
 obtain⟨d,i,e⟩:=bt.1 g;have c:aA ⟨n+1,x⟩:=aI.2 d;have j:=mz c a;have f:=eg (bm n x) (c (bm n x) (by simp[ap,bm]));have b:x.1.1=4:=by
  by_cases b:x.1.1=4
  ·exact b
  ·have:x.2.2=[]:=bL (f.2.2.2.2 b);rw[this]at a;cases a
 have h:=rS (λy=>1+sz n y) (λy=>by have:=(ex n y).1;omega) x.2.2 y a;simp only[sz,if_pos b]at e
 exact bt.2 ⟨aI.1 (aU n x y c a),by omega,by
  have k:1+sz n y<=(x.2.2.map λy=>1+sz n y).sum:=h.1
  omega⟩
theorem vH{n:Nat}{x:Tm (n+1)}(a:bv (n+1) x=0)(i:Nat){y:Tm n}(b:x.2.2[i]?=some y):bv n y=0:=ij a (ax b)
theorem oT{n N:Nat}(c:n<=N)(x:Tm (n+1))(a:bv (N+1) (aH (N+1) (n+1) x)=0):bv (n+1) x=0:=by
 have e:aA ⟨n+1,x⟩:=λb d=>(aI.2 (bt.1 a).1) b (by rw[lL N n c x];exact d);rw[<-bI (fP (N+1) (n+1) (by omega) x e)];exact a
def Hb{n:Nat}(c:Cl (n+1)):Prop:=bv (n+1) c.1.1=0/\bv (n+1) c.1.2.1=0/\bv (n+1) c.1.2.2=0/\c.2.2.length<=8/\∀a∈c.2.2,Jx a
theorem IK{n:Nat}{p:List (Bh (n+1))}(d:lY n p=0):jm (n+1) p=true/\∀b∈p,b.2.2.length<=6/\∀c∈b.2.2,Hb c:=by
 unfold lY at d;cases e:jm (n+1) p with
 | false=>rw[e]at d;cases d
 | true=>
  rw[e,if_pos rfl]at d;refine⟨rfl,λb l=>?_⟩;unfold jm at e;simp only[aB,bT]at e;have h:=e.2 b l;unfold sj at h;simp only[aB,bT,bV]at h;refine⟨by omega,λc m=>?_⟩;have i:=h.2 c m;unfold qS at i;simp only[aB,bT,bV]at i;have o:bv (n+5) (ei n b)=0:=ij d (by simp only[cO,cI];exact bU _ (List.mem_map_of_mem l));have f:bv (n+4) (ey n c)=0:=ij o (by simp only[ei,cI];exact bU _ (bU _ (List.mem_map_of_mem m)));have s:bv (n+3) (cI (n+2) (c.2.2.map (da n)))=0:=vH f 3 rfl;refine⟨oT (N:=n+2) (by omega) _ (vH f 1 rfl),oT (N:=n+2) (by omega) _ (vH f 2 rfl),oT (N:=n+2) (by omega) _ (vH f 4 rfl),by omega,λj k=>?_⟩;have g:bv (n+2) (da n j)=0:=ij s (by simp only[cI];exact List.mem_map_of_mem k);refine⟨i.2 j k,λr=>?_,λq=>?_⟩
  ·rcases r with a|a
   ·exact ij g (by simp[da,a,cI])
   ·exact ij g (by simp[da,a,cI])
  ·rcases q with a|a
   ·exact ij g (by simp[da,a,cI])
   ·exact ij g (by simp[da,a,cI])
section
variable {base db:Nat} {self:Int} {n D k:Nat} {nx:Int} {d:Dg} {w:World} {l:List (Tm (D+1))} {bg bc:Nat} {sd:List (Int×Tm (D+1+n+1))} {sp:List (Int×ByteArray×Tm (D+1+n+1))} {sv pv lv:Value}
theorem dT.kept(a:dT base db self n D k nx d w l bg bc sd sp sv pv lv){S:Nat->Prop}{w':World}(i:bi S w w')(m:∀b,base<=b->b<w.heap.size->¬S b):dT base db self n D k nx d w' l bg bc sd sp sv pv lv:=by
 have Q:=i.size;obtain⟨L,B,v,p,R⟩:=a.own;have s:∀{g:Nat}{y:Tm g},In w.heap.size w g y->cg (G7 base db bg sv pv lv) g y->In w'.heap.size w' g y:=λG H=>G.kee (i.mono (T:=λb=>S b/\b<w.heap.size) λb E f=>⟨f,E⟩) (H.mono λf h (e:S f/\f<w.heap.size)=>m f h.1 e.2 e.1);have u:∀{q:TypeId}{e g:Nat}{x:Value}{z:List Value},w.ownsRow base q e x g z->w'.ownsRow base q e x g z:=λ{q e g x z} t=>aT t i λf h o=>by
  obtain⟨N,F⟩:=dS t f h;refine m f ?_ (aE.1 F).1 o;rcases t.2 with⟨r,_⟩|⟨C,cap,O,r,P,_⟩
  ·rw[r]at h;cases h
  ·rw[r]at h;have:C=f:=aq h;omega
 refine⟨(i.block db a.lt (m db B a.lt)).trans a.box,⟨L,B,v,by omega,by omega⟩,a.bnd,a.tells,λJ M I=>?_,λK=>?_,u a.sRow,u a.pRow,u a.lRow,a.sIs,a.pIs,λe o=>?_,λe o=>?_,a.apart,a.few⟩
 ·obtain⟨j,b,c⟩:=a.row J M I;exact⟨j.kee i p (m bg v p),s b c,c⟩
 ·have A:=a.free K;unfold World.frozen? at A ⊢;rw[i.block bg p (m bg v p)];exact A
 ·obtain⟨j,b,c⟩:=a.sIn e o;exact⟨j,s b c,c⟩
 ·obtain⟨j,b,c⟩:=a.pIn e o;exact⟨j,s b c,c⟩
theorem dT.low(b:dT base db self n D k nx d w l bg bc sd sp sv pv lv):∀q,ke db bg sv pv lv q->q<w.heap.size:=by
 have c:∀{f:TypeId}{i g q:Nat}{e:Value}{h:List Value},w.ownsRow base f i e g h->e.ownBlock=some q->q<w.heap.size:=λ{f i g q e h} m a=>by
  obtain⟨o,j⟩:=dS m q a;exact(aE.1 j).1
 intro q a;rcases a with rfl|rfl|a|a|a
 ·exact b.lt
 ·exact b.own.2.2.2.1
 ·exact c b.sRow a
 ·exact c b.pRow a
 ·exact c b.lRow a
def KF(u t:Nat)(name:ByteArray)(room:Int)(s:Tc)(ms:List Tc)(q:Nat)(M:Nat->Prop)(base db:Nat)(self:Int)(n D:Nat)(nx:Int)(c:Cl (n+1))(b:List Tc)(S:Nat->Prop)(w:World)(f:Int)(w':World):Prop:=
 f=(eP room self nx (cn 13 s) (cn 13 s) (ms.map (cn 13)) c b).fate/\bi (λa=>M a\/S a) w w'/\(∃j z r e y o p k,cd u t name room 13 j ms [] (q+402) (λa=>M a\/w.heap.size<=a) w' z r e y o p k/\cn 13 j=(eP room self nx (cn 13 s) (cn 13 s) (ms.map (cn 13)) c b).state)/\
  ((f=0\/f=1)->∃d m g l v x e i h,dT base db self n D 8 nx d w' m g l v x e i h/\d.sends=(eP room self nx (cn 13 s) (cn 13 s) (ms.map (cn 13)) c b).sends/\d.spawns=(eP room self nx (cn 13 s) (cn 13 s) (ms.map (cn 13)) c b).spawns/\d.links=(eP room self nx (cn 13 s) (cn 13 s) (ms.map (cn 13)) c b).links/\∀a,ke db g e i h a->¬(M a\/w'.heap.size<=a))
theorem Kk{ms:List Tc}(a:∀y∈ms,bv 13 y=0):((ms.map (cn 13)).map (sz 13)).sum=(ms.map (sz 13)).sum:=by
 rw[g8];congr 1;exact lg λy b=>BW (a y b)
theorem Au{Q I:Nat}{name:ByteArray}{room:Int}{s:Tc}{ms:List Tc}{P:Nat}{M:Nat->Prop}{ws:List Wd}{nm:List ByteArray}{an:Wd}{vs:List Wd}{ma:Option Addr}{ak:Nat}{Mh:Nat->Prop}{b:List Tc}(aZ:cd Q I name room 13 s ms [] P M w ws nm an vs ma ak Mh)(T:dT base db self n D 0 nx d w l bg bc sd sp sv pv lv)(ay:d=⟨b,nx,[],[],[],false⟩)(c:Cl (n+1))(aU:fW (n+1) base w c)(bk:Hb c)(a0:1<=self/\self<=99)(L:∀q,M q->q<base)(bJ:Q<=base)(bj:P<=48000)(bd:ms.length<=999):Calls Tryz.prog 58 #[.pointer (some ⟨I,0,none⟩),.agg (et (n+1) c).toArray,.pointer (some ⟨db,0,none⟩)] w λe w'=>∃f,e=.returned (.int .i64 f)/\KF Q I name room s ms P M base db self n D nx c b (ke db bg sv pv lv) w f w':=by
 obtain⟨bG,bH,aR,a8,a9⟩:=bk;have aD:=T.own.2.2.2.2;have bf:∀{h:World},bi (ke db bg sv pv lv) w h->Below base w h:=λm=>m.below aD λb E q=>by
  have:=T.high b q;omega
 have aG:∀{h:World},bi (ke db bg sv pv lv) w h->cd Q I name room 13 s ms [] P M h ws nm an vs ma ak Mh:=λm=>aZ.kept (N:=12) (im m) λb E _ q=>by
  have:=L b E;have:=T.high b q;omega
 have az:∀{h:World},bi (ke db bg sv pv lv) w h->bi (λq=>M q\/ke db bg sv pv lv q) w h:=λm=>m.mono λq _ a=>af a;have bh:∀g∈ms,bv 13 g=0:=λg bq=>(aZ.front.2.2.1 g (bU _ bq)).1
 refine yg (D+1+n) c.1.1.1.1 c.1.1.1.2.1 c.1.1.1.2.2 c.1.1.2.1.1 c.1.1.2.2.length c.1.1.2.1.2 c.1.2.1.1.1 c.1.2.1.1.2.1 c.1.2.1.1.2.2 c.1.2.1.2.1.1 c.1.2.1.2.2.length c.1.2.1.2.1.2 c.2.1.1 c.2.2.length c.2.1.2 c.1.2.2.1.1 c.1.2.2.1.2.1 c.1.2.2.1.2.2 c.1.2.2.2.1.1 c.1.2.2.2.2.length c.1.2.2.2.1.2 I db w
  (λh=>bi (ke db bg sv pv lv) w h/\∃i x v u A B C z y,qq self c.2.2 d=some i/\dT base db self n D 8 nx i h x v u A B C z y)
  (λt g S=>∃h i x v u A B C z y,bi (ke db bg sv pv lv) w h/\qq self c.2.2 d=some i/\dT base db self n D 8 nx i h x v u A B C z y/\Below h.heap.size h S/\In S.heap.size S (D+1+n+1) g/\cg (λq=>h.heap.size<=q) (D+1+n+1) g/\t=(p8 i.b self (n+1) c.1.2.2).isSome/\∀r,p8 i.b self (n+1) c.1.2.2=some r->bv _ g=0/\aF _ g=true/\cn _ g=r)
  (KF Q I name room s ms P M base db self n D nx c b (ke db bg sv pv lv) w) ?_ ?_ ?_ ?_
 ·intro h Y;refine((T.later Y).all c.2.2 c.2.1.1 c.2.1.2 ?_ a9 a8 a0).mono ?_
  ·rcases aU.2.2 with e|⟨q,o,e,a,aV⟩
   ·exact ae e
   ·exact af ⟨q,o,e,a,λaN aQ aX=>⟨λa2 bD be=>(Y.cell (p:=⟨q,o+aN*11+a2,none⟩) (aM a aD)).trans ((aV aN aQ aX).1 a2 bD be),((aV aN aQ aX).2).later (Y.mono aD)⟩⟩
  ·rintro e w' ⟨t,rfl,av⟩;obtain⟨ao,J,aO⟩:=av.out;have m:bi (ke db bg sv pv lv) w w':=(aC Y _).trans ao λ_ _ e=>e;refine⟨t,rfl,λq bM a aY=>(ao.block q (aE.1 aY).1 λk=>by have:=T.low q k;omega).trans aY,λG=>⟨m,?_⟩,λaa=>?_⟩
   ·rw[G]at J;obtain⟨aS,aW⟩:=gA.1 J.symm;obtain⟨bs,a7,a6,bz,bA,R,bw,bu,br,_⟩:=aO aS aW;exact⟨aS,bs,a7,a6,bz,bA,R,bw,bu,aW,br⟩
   ·rw[aa]at J;have Z:qq self c.2.2 d=none:=jE.1 (by rw[<-jG,<-J];rfl);rw[ay]at Z;have j:eP room self nx (cn 13 s) (cn 13 s) (ms.map (cn 13)) c b=⟨cn 13 s,2,[],[],[],cn 13 s,ms.map (cn 13)⟩:=by simp[eP,Z]
    refine⟨by rw[j],az m,⟨s,ws,nm,an,vs,ma,ak,Mh,(aG m).mono (N:=12) (λq a=>ae a) (by omega),by rw[j]⟩,λk=>?_⟩;omega
 ·rintro h ⟨m,i,x,v,u,A,B,C,z,y,F,K⟩;obtain⟨bB,bC⟩:=K.told (self:=self) c.1.2.2 aR;refine(K.value c.1.2.2 (aU.1.2.2.below (bf m)) aR a0 h (ah _ _)).mono ?_;rintro e w' ⟨g,rfl,a5⟩;obtain⟨y1,y2,aP,W⟩:=a5.out;exact⟨g,_,rfl,h,i,x,v,u,A,B,C,z,y,m,F,K,y1,y2,aP,bB,λr G=>bC g r G W⟩
 ·rintro g S aw ⟨h,i,x,v,u,A,B,C,z,y,m,F,K,y1,_,_,W,_⟩ E;have Z:p8 i.b self (n+1) c.1.2.2=none:=jE.1 (by rw[<-jG,<-W];rfl);rw[ay]at F;have j:eP room self nx (cn 13 s) (cn 13 s) (ms.map (cn 13)) c b=⟨cn 13 s,2,[],[],[],cn 13 s,ms.map (cn 13)⟩:=by simp[eP,F,Z]
  have U:bi (ke db bg sv pv lv) w aw:=(m.trans (aC y1 (λ_=>False)) λ_ _ e=>e.elim).trans (aC E (λ_=>False)) λ_ _ e=>e.elim;refine⟨by rw[j],az U,⟨s,ws,nm,an,vs,ma,ak,Mh,(aG U).mono (N:=12) (λq a=>ae a) (by omega),by rw[j]⟩,λk=>?_⟩;omega
 ·rintro g S aw ⟨h,i,x,v,u,A,B,C,z,y,m,F,K,y1,y2,aP,W,bE⟩ E;obtain⟨r,G⟩:=gA.1 W.symm;obtain⟨au,bF,a4⟩:=bE r G;rw[ay]at F;have bL:=m.size;have bK:=y1.size;have bl:=E.size;have U:bi (ke db bg sv pv lv) w aw:=(m.trans (aC y1 (λ_=>False)) λ_ _ e=>e.elim).trans (aC E (λ_=>False)) λ_ _ e=>e.elim;have aL:aA ⟨D+1+n+1,g⟩:=aI.2 (bt.1 au).1;have aK:eQ (D+1+n+1) g<13:=by have:=(bt.1 au).2.1;omega
  have ai:=io 13 (D+1+n+1) g aL aK;have bm:=qw 13 (D+1+n+1) g _ _ aL aK ((y2.below E).mono bl);have bo:=rQ 13 (D+1+n+1) g _ aL aK aP;have bn:(aH 13 (D+1+n+1) g).2.2.length=g.2.2.length:=by simp[aH]
  have a1:cn 13 (aH 13 (D+1+n+1) g)=r:=(ge ai).trans a4;have bp:sz 13 (aH 13 (D+1+n+1) g)=sz 13 r:=by
   rw[ku _ _ _ _ ai,<-a4,BW au]
  have aT:=(aG U).become (N:=12) (aH 13 (D+1+n+1) g) bm (bo.mono λq a k=>by have:=L q k;omega) ((bI ai).trans au) ((cw _ _ _ _ ai).trans bF) (λq k=>by have:=L q k;omega) bj bd (by omega);rw[bn]at aT;refine aT.mono ?_;rintro e w' ⟨t,rfl,av⟩;obtain⟨ao,J,ap,ar,am,R,aq,aj,al,X,aO,a3,bx⟩:=av.out;have O:t=decide (((ms.map (cn 13)).map (sz 13)).sum+sz 13 r<=room):=by
   rw[Kk bh,<-bp];exact ao
  have aB:bi (λq=>M q\/ke db bg sv pv lv q) w w':=(az U).trans (gh J) λq _ a=>ae a
  have ax:cd Q I name room 13 ap ms [] (P+402) (λq=>M q\/w.heap.size<=q) w' ar am R aq aj al X:=aO.mono (N:=12) (λq a=>by
   rcases a with a|a
   ·exact ae a
   ·exact af (by omega)) (ag _)
  have H:dT base db self n D 8 nx i w' x v u A B C z y:=((K.later y1).later E).kept (gh J) λq a _ k=>by
   have:=L q k;omega
  refine⟨t,rfl,λaa=>?_,λad=>⟨i.stops,ab H.box 6,λaJ=>?_,λaJ=>?_⟩⟩
  ·rw[aa]at O;have V:¬((ms.map (cn 13)).map (sz 13)).sum+sz 13 r<=room:=of_decide_eq_false O.symm;have j:eP room self nx (cn 13 s) (cn 13 s) (ms.map (cn 13)) c b=⟨cn 13 s,3,[],[],[],cn 13 s,ms.map (cn 13)⟩:=by
    unfold eP;simp only[F,G];rw[if_neg V]
   refine⟨by rw[j],aB,⟨ap,ar,am,R,aq,aj,al,X,ax,by rw[j];exact ge (bx aa)⟩,λk=>?_⟩;omega
  ·rw[ad]at O;have V:((ms.map (cn 13)).map (sz 13)).sum+sz 13 r<=room:=eE O.symm;have j:eP room self nx (cn 13 s) (cn 13 s) (ms.map (cn 13)) c b=⟨cn 13 s,1,i.sends,i.spawns,i.links,r,ms.map (cn 13)⟩:=by
    unfold eP;simp only[F,G];rw[if_pos V,aJ];rfl
   refine⟨by rw[j],aB,⟨ap,ar,am,R,aq,aj,al,X,ax,by rw[j,a3 ad];exact a1⟩,λ_=>⟨i,x,v,u,A,B,C,z,y,H,by rw[j],by rw[j],by rw[j],λq a k=>?_⟩⟩;have ba:=H.high q a;have bb:=H.low q a;rcases k with k|k
   ·have:=L q k;omega
   ·omega
  ·rw[ad]at O;have V:((ms.map (cn 13)).map (sz 13)).sum+sz 13 r<=room:=eE O.symm;have j:eP room self nx (cn 13 s) (cn 13 s) (ms.map (cn 13)) c b=⟨cn 13 s,0,i.sends,i.spawns,i.links,r,ms.map (cn 13)⟩:=by
    unfold eP;simp only[F,G];rw[if_pos V,aJ];rfl
   refine⟨by rw[j],aB,⟨ap,ar,am,R,aq,aj,al,X,ax,by rw[j,a3 ad];exact a1⟩,λ_=>⟨i,x,v,u,A,B,C,z,y,H,by rw[j],by rw[j],by rw[j],λq a k=>?_⟩⟩;have ba:=H.high q a;have bb:=H.low q a;rcases k with k|k
   ·have:=L q k;omega
   ·omega
end
end Go.Proofs.YtmbjgiaebneodaaGreat
