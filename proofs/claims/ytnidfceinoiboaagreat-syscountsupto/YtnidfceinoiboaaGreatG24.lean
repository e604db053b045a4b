/- What is proved here: plain facts and contracts that the claimed theorem stands on. No condition but those that each names. -/
import Derived.Test.YtnidfceinoiboaaGreatG23
namespace Go.Proofs.YtnidfceinoiboaaGreat
open Go.RowKit
section
variable {base db:Nat} {self:Int} {n D k:Nat} {nx:Int} {d:Dg} {w:World} {l:List (Tm (D+1))} {bg bc:Nat} {sd:List (Int×Tm (D+1+n+1))} {sp:List (Int×ByteArray×Tm (D+1+n+1))} {sv pv lv:Value}
theorem Jg{N:Nat}{o:Option (Tm N)}{z:Tm N}(a:mF 0 o=some z):bA N z=0:=by
 unfold mF at a;rw[if_pos rfl]at a;obtain⟨c,_,a⟩:=bz.1 a;by_cases b:bA N c=0
 ·rw[if_pos b]at a;rw[<-ap a];exact b
 ·rw[if_neg b]at a;cases a
theorem dV.told(c:dV base db self n D k nx d w l bg bc sd sp sv pv lv)(x:Tm (n+1))(g:bA (n+1) x=0):(mF 0 (vl (D+1) l self (n+1) x)).isSome=(qn d.b self (n+1) x).isSome/\∀(z:Tm (D+1+n+1)) t,qn d.b self (n+1) x=some t->aw _ z (D+1+n+1) ((mF 0 (vl (D+1) l self (n+1) x)).getD (uo (D+1+n)))=true->bA _ z=0/\aF _ z=true/\cn _ z=t:=by
 have j:=Hg c.bnd c.tells self x g;refine⟨by rw[<-j,Option.isSome_map],λz t e a=>?_⟩;have o:=KQ (Gy c.bnd c.tells) g e;rw[<-j]at e;obtain⟨p,m,rfl⟩:=cD.1 e;rw[m]at a;have a:aw _ z _ p=true:=a;have h:=(bI a).trans (Jg m);have i:=gw a;refine⟨h,?_,i⟩;have f:=o.2.1;rw[<-i,qx h]at f;exact f
theorem dV.send(h:dV base db self n D k nx d w l bg bc sd sp sv pv lv)(a:Ac (n+1))(P:gQ (n+1) base w a)(ah:bA (n+1) a.2.1.1=0)(Q:bA (n+1) a.2.1.2=0)(aa:a.1=1)(V:1<=self/\self<=99)(aG:k<=1000):Calls Tryz.prog 147 #[.pointer (some ⟨db,0,none⟩),KX a] w λe w'=>∃t,e=.returned (.bool t)/\Hid (vS base db self n D k nx d a (kD db bg sv pv lv) w t w'):=by
 have U:=h.sRow;obtain⟨y,z,rfl⟩:=lG U;obtain⟨aB,aD,aF,Z⟩:=h.few;have s:sV self a d=(lB d.b self (n+1) a.2.1.1).bind λx=>(qn d.b self (n+1) a.2.1.2).map λt=>{d with sends:=d.sends++ [(x,t)]}:=by
  simp[sV,aa]
 obtain⟨ak,al⟩:=h.told (self:=self) a.2.1.2 Q;refine(En (D+1+n) a.1 a.2.1.1.1.1 a.2.1.1.1.2.1 a.2.1.1.1.2.2 a.2.1.1.2.1.1 a.2.1.1.2.2.length a.2.1.1.2.1.2 a.2.1.2.1.1 a.2.1.2.1.2.1 a.2.1.2.1.2.2 a.2.1.2.2.1.1 a.2.1.2.2.2.length a.2.1.2.2.1.2 a.2.2.1 a.2.2.2 base db y sd.length z _ w (lB d.b self (n+1) a.2.1.1).isSome (λx=>∀A,lB d.b self (n+1) a.2.1.1=some A->x=A) (mF 0 (vl (D+1) l self (n+1) a.2.1.2)) (by omega) h.lt h.own.2.2.2.2 ⟨ab h.box 3,r7 h.box 3⟩ U h.apart.1.1 (h.process a.2.1.1 P.2.1 ah V) (h.value a.2.1.2 P.2.2.1 Q V)).mono ?_;rintro e w' ⟨rfl,K,i⟩;refine⟨_,rfl,?_⟩;rw[ak]at K i ⊢;cases hp:lB d.b self (n+1) a.2.1.1 with
 | none=>
  have E:=K (by rw[hp];rfl);refine⟨aC E _,by rw[s,hp];rfl,λN p=>?_⟩;rw[s,hp]at p;cases p
 | some A=>
  cases g:qn d.b self (n+1) a.2.1.2 with
  | none=>
   have E:=K (by rw[hp,g];rfl);refine⟨aC E _,by rw[s,hp,g];rfl,λN p=>?_⟩;rw[s,hp,g]at p;cases p
  | some t=>
   obtain⟨x,r,j,c,B,am,ar,ao,W,aj,q,m,rfl⟩:=i (by rw[hp,g];rfl);obtain rfl:=am A hp;obtain⟨an,_,au⟩:=al r t g ar;have ag:B.heap[db]?=_:=(q.block db h.lt λf=>h.apart.1.1 f).trans h.box;have I:bf (kD db bg (.slice y sd.length z) pv lv) w (B.setCell ⟨db,3,none⟩ (.slice (some ⟨j,0,none⟩) (sd.length+1) c)):=bf.trans (q.mono λf _ g=>af (af (ae g))) (bH _ _ _ _) λf _ g=>ae g;have v:∀f,f<w.heap.size->¬(Value.slice y sd.length z).ownBlock=some f->j≠f:=λf g ai e=>by
    rcases m with m|m
    ·rw[e]at m;exact ai m
    ·omega
   have O:∀f,kD db bg (.slice (some ⟨j,0,none⟩) (sd.length+1) c) pv lv f->kD db bg (.slice y sd.length z) pv lv f\/w.heap.size<=f:=λf g=>by
    rcases g with g|g|g|g|g
    ·exact ae (ae g)
    ·exact ae (af (ae g))
    ·have:j=f:=ap g;subst this;rcases m with m|m
     ·exact ae (af (af (ae m)))
     ·exact af m
    ·exact ae (af (af (af (ae g))))
    ·exact ae (af (af (af (af g))))
   obtain⟨ay,az,aA,aK⟩:=h.frame I O;refine⟨I,by rw[s,hp,g];rfl,λN p=>?_⟩;rw[s,hp,g]at p;obtain rfl:=ap p;have aH:=I.size;have aI:=q.size;obtain⟨L,aw,ax,M,aJ⟩:=h.own;have u:=bH B db 3 (.slice (some ⟨j,0,none⟩) (sd.length+1) c);have S:∀f,lv.ownBlock=some f->f<w.heap.size:=λf g=>by
    obtain⟨Y,G⟩:=dT h.lRow f g;exact(aE.1 G).1
   have T:∀f,pv.ownBlock=some f->f<w.heap.size:=λf g=>by
    obtain⟨Y,G⟩:=dT h.pRow f g;exact(aE.1 G).1
   have F:¬(Value.slice y sd.length z).ownBlock=some bg:=h.apart.2.1.1;have aq:ch (Hv base db bg (.slice (some ⟨j,0,none⟩) (sd.length+1) c) pv lv) _ r:=W.mono λf g=>by
    have:=h.lt;refine⟨by omega,λo=>?_⟩;rcases o with o|o|o|o|o
    ·omega
    ·omega
    ·exact g.2 (ap o).symm
    ·have:=T f o;omega
    ·have:=S f o;omega
   refine⟨l,bg,bc,sd++ [(x,r)],sp,_,pv,lv,⟨(nb ag).1 _,⟨L,aw,ax,by omega,by omega⟩,h.bnd,h.tells,λX C i=>⟨?_,ay X C i⟩,λav=>?_,?_,?_,?_,?_,h.pIs,λC i=>?_,aA,⟨⟨?_,h.apart.1.2.1,h.apart.1.2.2⟩,⟨?_,h.apart.2.1.2.1,h.apart.2.1.2.2⟩,λf=>⟨λg=>⟨λe=>?_,λe=>?_⟩,(h.apart.2.2 f).2⟩⟩,⟨by simp;omega,by omega,by show d.links.length<=k+1;omega,Z⟩⟩,O⟩
   ·exact((h.row X C i).1.kee q M F).kee u (by omega) (λe=>L e.symm)
   ·have ad:(B.setCell ⟨db,3,none⟩ (.slice (some ⟨j,0,none⟩) (sd.length+1) c)).heap[bg]?=w.heap[bg]? :=(u.block bg (by omega) (λe=>L e.symm)).trans (q.block bg M F);have R:=h.free av;unfold World.frozen? at R ⊢;rw[ad];exact R
   ·have:=aT aj u λf g e=>v db h.lt h.apart.1.1 (by
      have:j=f:=ap g
      rw[this,e])
    simpa using this
   ·exact aT (aT h.pRow q λf g J=>((h.apart.2.2 f).1 J).1 g) u λf g e=>h.apart.1.2.1 (by rw[g,e])
   ·exact aT (aT h.lRow q λf g J=>((h.apart.2.2 f).1 J).2 g) u λf g e=>h.apart.1.2.2 (by rw[g,e])
   ·simp[h.sIs,au]
   ·rcases di.1 i with i|i
    ·exact az C i
    ·obtain rfl:=dj.1 i;refine⟨an,?_,aq⟩;refine ao.kee u (W.mono λf g e=>?_);have:=h.lt;omega
   ·exact λe=>v db h.lt h.apart.1.1 (ap e)
   ·exact λe=>v bg M F (ap e)
   ·have H:j=f:=ap g;exact v f (T f e) (λr=>((h.apart.2.2 f).1 r).1 e) H
   ·have H:j=f:=ap g;exact v f (S f e) (λr=>((h.apart.2.2 f).1 r).2 e) H
end
theorem mQ(w:World)(g o:Nat)(v0 v1 v2 v3:Value):bf (λb=>b=g) w (cP w g o v0 v1 v2 v3):=
 bf.trans (bf.trans (bf.trans (bH w g o v0) (bH _ g (o+1) v1) λ_ _ a=>a) (bH _ g (o+2) v2) λ_ _ a=>a) (bH _ g (o+3) v3) λ_ _ a=>a
theorem zv{w:World}{g o:Nat}{v0 v1 v2 v3:Value}(j:Nat)(a:j<o\/o+4<=j):(cP w g o v0 v1 v2 v3).cell? ⟨g,j,none⟩=w.cell? ⟨g,j,none⟩:=by
 unfold cP;rw[dm j (by omega),dm j (by omega),dm j (by omega),dm j (by omega)]
theorem vw{w:World}{g o:Nat}{f h i j:Value}(v0 v1 v2 v3:Value)(a:w.cell? ⟨g,o,none⟩=some f/\w.cell? ⟨g,o+1,none⟩=some h/\w.cell? ⟨g,o+2,none⟩=some i/\w.cell? ⟨g,o+3,none⟩=some j):(cP w g o v0 v1 v2 v3).cell? ⟨g,o,none⟩=some v0/\(cP w g o v0 v1 v2 v3).cell? ⟨g,o+1,none⟩=some v1/\(cP w g o v0 v1 v2 v3).cell? ⟨g,o+2,none⟩=some v2/\(cP w g o v0 v1 v2 v3).cell? ⟨g,o+3,none⟩=some v3:=by
 obtain⟨b,c,d,e⟩:=a;unfold cP;refine⟨?_,?_,?_,?_⟩
 ·rw[dm o (by omega),dm o (by omega),dm o (by omega)];exact ja _ _ _ b
 ·rw[dm (o+1) (by omega),dm (o+1) (by omega)];exact ja _ _ _ ((dm (o+1) (by omega)).trans c)
 ·rw[dm (o+2) (by omega)];exact ja _ _ _ ((dm (o+2) (by omega)).trans ((dm (o+2) (by omega)).trans d))
 ·exact ja _ _ _ ((dm (o+3) (by omega)).trans ((dm (o+3) (by omega)).trans ((dm (o+3) (by omega)).trans e)))
theorem rE{w:World}{g o:Nat}{v0 v1 v2 v3:Value}(j:Nat):(cP w g o v0 v1 v2 v3).frozen? ⟨g,j,none⟩=w.frozen? ⟨g,j,none⟩:=by
 unfold cP;rw[fR,fR,fR,fR]
theorem Dm(w:World)(p:Addr):w.drew.cell? p=w.cell? p:=rfl
theorem yx(w:World)(p:Addr):w.drew.frozen? p=w.frozen? p:=rfl
theorem dr.far{w w':World}{g o:Nat}{n:Nat}{x:Tm n}(b:dr w g o n x)(a:∀j,o<=j->j<o+4->w'.cell? ⟨g,j,none⟩=w.cell? ⟨g,j,none⟩):dr w' g o n x:=by
 cases n with
 | zero=>exact b.elim
 | succ n=>
  obtain⟨c,d,e,f⟩:=b;exact⟨(a _ (by omega) (by omega)).trans c,(a _ (by omega) (by omega)).trans d,(a _ (by omega) (by omega)).trans e,(a _ (by omega) (by omega)).trans f⟩
theorem Kv(u:Int)(D:Nat)(g:1<=u/\u<=99):zm (D+1) (aS 3 u D)=true/\cn (D+1) (aS 3 u D)=D9 u:=by
 refine⟨?_,rfl⟩;have e:bO (D+1) (aS 3 u D)=true:=by
  rw[<-aJ];intro a b;have:a=((3,u,.empty),(none,0,0)):=by simpa [aq,aS]using b
  subst this;have f:kK u 1 99=true:=by simp[kK];omega
  simp[bT,f]
 have c:bA (D+1) (aS 3 u D)=0:=bv.2 ⟨e,by simp[eW,aS],by simp[sz,aS]⟩;have d:aF (D+1) (aS 3 u D)=true:=by simp[aF,aS]
 simp only[zm,c,az,gI];refine⟨rfl,af ?_⟩;rw[<-eT];exact d
theorem Ip{D:Nat}{l:List (Tm D)}(a:fG D l=true)(i:Nat){y:Tm D}(c:zm D y=true):fG D (l.set i y)=true:=by
 simp only[fG,List.length_set,az,bN,bS]at a ⊢;refine⟨a.1,λd b=>?_⟩;rcases List.mem_or_eq_of_mem_set b with b|rfl
 ·exact a.2 d b
 ·exact c
section
variable {base db:Nat} {self:Int} {n D k:Nat} {nx:Int} {d:Dg} {w:World} {l:List (Tm (D+1))} {bg bc:Nat} {sd:List (Int×Tm (D+1+n+1))} {sp:List (Int×ByteArray×Tm (D+1+n+1))} {sv pv lv:Value}
theorem dV.spawn(h:dV base db self n D k nx d w l bg bc sd sp sv pv lv)(a:Ac (n+1))(aL:gQ (n+1) base w a)(ai:bA (n+1) a.2.1.2=0)(aK:a.1=2)(aX:cg a.2.2.1=true)(bu:0<=a.2.2.2/\a.2.2.2<4)(aZ:1<=self/\self<=99)(bo:k<=7):Calls Tryz.prog 148 #[.pointer (some ⟨db,0,none⟩),KX a] w λe w'=>∃t,e=.returned (.bool t)/\Hid (vS base db self n D k nx d a (kD db bg sv pv lv) w t w'):=by
 have ao:=h.pRow;obtain⟨M,N,rfl⟩:=lG ao;obtain⟨bj,bk,bl,bm,aI,aJ⟩:=h.few;obtain⟨m,Y⟩:∃m:Nat,a.2.2.2=(m:Int):=⟨a.2.2.2.toNat,by omega⟩;have a2:m<4:=by omega
 have bn:=(gu h.bnd).1;obtain⟨p,av⟩:∃p,l[m]?=some p:=⟨l[m]'(by omega),aA _⟩;obtain⟨y1,y2,bB⟩:=h.row m p av;have aO:d.b[m]?=some (cn (D+1) p):=by rw[<-h.tells,dh,av];rfl
 have F:sV self a d=(qn d.b self (n+1) a.2.1.2).bind λt=>if p.1.1=6 then some {d with b:=d.b.set m (D9 d.next),next:=d.next+1,spawns:=d.spawns++ [(d.next,a.2.2.1,t)]}else none:=by
  have aU:bE ⟨13,(d.b[a.2.2.2.toNat]?).getD (D9 0)⟩=p.1.1:=by
   rw[Y,Int.toNat_natCast,aO];rfl
  have aV:¬a.1=1:=by omega
  unfold sV;rw[if_neg aV,if_pos aK,aU,Y,Int.toNat_natCast]
 obtain⟨a0,a1⟩:=h.told (self:=self) a.2.1.2 ai
 have q:=BK (D+1+n) a.1 a.2.1.1.1.1 a.2.1.1.1.2.1 a.2.1.1.1.2.2 a.2.1.1.2.1.1 a.2.1.1.2.2.length a.2.1.1.2.1.2 a.2.1.2.1.1 a.2.1.2.1.2.1 a.2.1.2.1.2.2 a.2.1.2.2.1.1 a.2.1.2.2.2.length a.2.1.2.2.1.2 a.2.2.1 m base db M sp.length N _ w (mF 0 (vl (D+1) l self (n+1) a.2.1.2)) bg bc d.next p.1.1 p.1.2.1 p.1.2.2 p.2.1.1 p.2.2.length p.2.1.2 a2 (by omega) h.lt h.own.2.2.2.1 h.own.1 h.own.2.2.2.2 (by omega) (by omega) (by
   simp only[cg,kK,az,bN]at aX
   omega)
  ⟨ab h.box 4,ab h.box 0,ab h.box 2,λj=>r7 h.box j,h.free⟩ ao ⟨h.apart.1.2.1,h.apart.2.1.2.1⟩ y1 (λaB=>iD _ _ _ _ _ _ aB) (h.value a.2.1.2 aL.2.2.1 ai aZ)
 rw[<-Y]at q;refine q.mono ?_;rintro e w' ⟨rfl,X,aw⟩;refine⟨_,rfl,?_⟩;rw[a0]at X aw ⊢;cases f:qn d.b self (n+1) a.2.1.2 with
 | none=>
  have T:=X (by rw[f];rfl);refine⟨aC T _,by rw[F,f];rfl,λS r=>?_⟩;rw[F,f]at r;cases r
 | some t=>
  by_cases E:p.1.1=6;rotate_left
  ·have T:=X (by rw[f];simp[E]);refine⟨aC T _,by rw[F,f];simp[E],λS r=>?_⟩;rw[F,f]at r;simp[E]at r
  ·obtain⟨y,g,c,ax,x,C,a8,a6,Q,aY,A,s,au,Z,ar⟩:=aw (by rw[f];simp[E]);obtain⟨a3,_,a9⟩:=a1 y t f a8;have aM:ax.heap[db]?=_:=(A.block db h.lt λi=>h.apart.1.2.1 i).trans h.box;obtain⟨G,ba,bb,R,bx⟩:=h.own;have bt:=A.size;have U:=(nb aM).2.1 (.slice (some ⟨g,0,none⟩) (sp.length+1) c);rw[<-au]at U;have u:bf (λb=>b=db) ax x:=by rw[au];exact bH _ _ _ _
   have B:bf (λb=>b=bg) x C:=by
    rw[Z];exact bf.trans (mQ x bg (m*4) _ _ _ _) (aC ((ah _ _).drew) _) λ_ _ e=>e
   have aN:C.heap[db]?=_:=(B.block db (aE.1 U).1 G).trans U;have v:bf (λb=>b=db) C w':=by rw[ar];exact bH _ _ _ _
   have ag:=(nb aN).2.2.2.1 (.int .i64 (d.next+1));rw[<-ar]at ag;have bq:=u.size;have br:=B.size;have bs:=v.size;have al:bf (kD db bg sv (.slice M sp.length N) lv) w w':=bf.trans (bf.trans (bf.trans (A.mono λi _ f=>af (af (af (ae f)))) u λi _ f=>ae f) B λi _ f=>af (ae f)) v λi _ f=>ae f;have z:∀i,i<w.heap.size->¬(Value.slice M sp.length N).ownBlock=some i->g≠i:=λi f aW e=>by
    rcases s with s|s
    ·rw[e]at s;exact aW s
    ·omega
   have ad:∀i,kD db bg sv (.slice (some ⟨g,0,none⟩) (sp.length+1) c) lv i->kD db bg sv (.slice M sp.length N) lv i\/w.heap.size<=i:=λi f=>by
    rcases f with f|f|f|f|f
    ·exact ae (ae f)
    ·exact ae (af (ae f))
    ·exact ae (af (af (ae f)))
    ·have:g=i:=ap f;subst this;rcases s with s|s
     ·exact ae (af (af (af (ae s))))
     ·exact af s
    ·exact ae (af (af (af (af f))))
   obtain⟨bd,be,bh,bz⟩:=h.frame al ad;refine⟨al,by rw[F,f];simp[E],λS r=>?_⟩;rw[F,f]at r;have r:some {d with b:=d.b.set m (D9 d.next),next:=d.next+1,spawns:=d.spawns++ [(d.next,a.2.2.1,t)]}=some S:=by simpa [E]using r
   obtain rfl:=ap r;have am:∀i,lv.ownBlock=some i->i<w.heap.size:=λi f=>by
    obtain⟨aD,V⟩:=dT h.lRow i f;exact(aE.1 V).1
   have aq:∀i,sv.ownBlock=some i->i<w.heap.size:=λi f=>by
    obtain⟨aD,V⟩:=dT h.sRow i f;exact(aE.1 V).1
   have O:¬(Value.slice M sp.length N).ownBlock=some bg:=h.apart.2.1.2.1;have a7:ch (Hv base db bg sv (.slice (some ⟨g,0,none⟩) (sp.length+1) c) lv) _ y:=Q.mono λi f=>by
    have:=h.lt;refine⟨by omega,λq=>?_⟩;rcases q with q|q|q|q|q
    ·omega
    ·omega
    ·have:=aq i q;omega
    ·exact f.2 (ap q).symm
    ·have:=am i q;omega
   have an:=Kv d.next D (by omega)
   -- the row of what is bound
   have H:∀j,x.cell? ⟨bg,j,none⟩=w.cell? ⟨bg,j,none⟩:=λj=>(u.cell j (by omega) (λe=>G e.symm)).trans (A.cell j R O);have J:∀j,w'.cell? ⟨bg,j,none⟩=C.cell? ⟨bg,j,none⟩:=λj=>v.cell j (by omega) (λe=>G e.symm);have I:∀j,C.cell? ⟨bg,j,none⟩=(cP x bg (m*4) (.int .i64 3) (.int .i64 d.next) (.string ⟨#[]⟩) (.slice none 0 0)).cell? ⟨bg,j,none⟩:=λj=>by
    rw[Z,Dm]
   have aP:∀j,j<m*4\/m*4+4<=j->w'.cell? ⟨bg,j,none⟩=w.cell? ⟨bg,j,none⟩:=λj aR=>by
    rw[J,I,zv j aR];exact H j
   have P:=vw (w:=x) (g:=bg) (o:=m*4) (.int .i64 3) (.int .i64 d.next) (.string ⟨#[]⟩) (.slice none 0 0) ⟨(H _).trans y1.1,(H _).trans y1.2.1,(H _).trans y1.2.2.1,(H _).trans y1.2.2.2⟩;refine⟨l.set m (aS 3 d.next D),bg,bc,sd,sp++ [(d.next,a.2.2.1,y)],sv,_,lv,⟨ag,⟨G,ba,bb,by omega,by omega⟩,Ip h.bnd m an.1,?_,λaa ay L=>?_,λj=>?_,?_,?_,?_,h.sIs,?_,be,λbi K=>?_,⟨⟨h.apart.1.1,?_,h.apart.1.2.2⟩,⟨h.apart.2.1.1,?_,h.apart.2.1.2.2⟩,λi=>⟨λf=>⟨λe=>?_,((h.apart.2.2 i).1 f).2⟩,λf e=>?_⟩⟩,⟨by omega,by simp;omega,by show d.links.length<=k+1;omega,by show d.next+1=nx+((sp++ [(d.next,a.2.2.1,y)]).length:Nat);simp;omega,aI,aJ⟩⟩,ad⟩
   ·rw[List.map_set,h.tells,an.2]
   ·by_cases aj:m=aa
    ·subst aj;rw[List.getElem?_set_self (by omega)]at L;obtain rfl:=ap L;have ak:=ko D 3 d.next (by unfold dc;omega) (by unfold dc;omega) w'.heap.size w' (Hv base db bg sv (.slice (some ⟨g,0,none⟩) (sp.length+1) c) lv);refine⟨⟨?_,?_,?_,?_⟩,ak.1,ak.2⟩
     ·rw[J,I];exact P.1
     ·rw[J,I];exact P.2.1
     ·rw[J,I];exact P.2.2.1
     ·rw[J,I];exact P.2.2.2
    ·rw[List.getElem?_set_ne aj]at L;exact⟨(h.row aa ay L).1.far λj bv bw=>aP j (by omega),bd aa ay L⟩
   ·have aH:w'.frozen? ⟨bg,j,none⟩=C.frozen? ⟨bg,j,none⟩:=by
      unfold World.frozen?;rw[v.block bg (by omega) (λe=>G e.symm)]
    have aG:C.frozen? ⟨bg,j,none⟩=x.frozen? ⟨bg,j,none⟩:=by
     rw[Z,yx,rE]
    have aF:x.frozen? ⟨bg,j,none⟩=w.frozen? ⟨bg,j,none⟩:=by
     unfold World.frozen?;rw[u.block bg (by omega) (λe=>G e.symm),A.block bg R O]
    rw[aH,aG,aF];exact h.free j
   ·refine aT (aT (aT (aT h.sRow A λi f W=>((h.apart.2.2 i).1 f).1 W) u λi f e=>h.apart.1.1 (by rw[f,e])) B λi f e=>h.apart.2.1.1 (by rw[f,e])) v λi f e=>h.apart.1.1 (by rw[f,e])
   ·have:=aT (aT (aT aY u λi f e=>z db h.lt h.apart.1.2.1 (by
      have:g=i:=ap f
      rw[this,e])) B λi f e=>z bg R O (by
      have:g=i:=ap f
      rw[this,e])) v λi f e=>z db h.lt h.apart.1.2.1 (by
      have:g=i:=ap f
      rw[this,e])
    simpa using this
   ·refine aT (aT (aT (aT h.lRow A λi f W=>(h.apart.2.2 i).2 W f) u λi f e=>h.apart.1.2.2 (by rw[f,e])) B λi f e=>h.apart.2.1.2.2 (by rw[f,e])) v λi f e=>h.apart.1.2.2 (by rw[f,e])
   ·simp[h.pIs,a9]
   ·rcases di.1 K with K|K
    ·exact bh bi K
    ·obtain rfl:=dj.1 K;have bp:=h.lt;have a4:=a6.kee u (Q.mono λi f e=>by omega);have a5:=a4.kee B (Q.mono λi f e=>by omega);exact⟨a3,a5.kee v (Q.mono λi f e=>by omega),a7⟩
   ·exact λe=>z db h.lt h.apart.1.2.1 (ap e)
   ·exact λe=>z bg R O (ap e)
   ·exact z i (aq i f) (λy=>((h.apart.2.2 i).1 f).1 y) (ap e)
   ·have aQ:g=i:=ap f;exact z i (am i e) (λy=>(h.apart.2.2 i).2 y e) aQ
end
def JU{n:Nat}(a:Ac (n+1)):Prop:=lU (n+1) a=true/\(a.1=1\/a.1=3->bA (n+1) a.2.1.1=0)/\(a.1=1\/a.1=2->bA (n+1) a.2.1.2=0)
theorem oI(self:Int){n:Nat}:(p q:List (Ac (n+1)))->(d:Dg)->qA self (p++q) d=(qA self p d).bind (qA self q)
 | [],_,_=>rfl
 | a::p,q,d=>by
  simp only[fq,qA];cases sV self a d with
  | none=>rfl
  | some b=>exact oI self p q b
theorem Fz(self:Int){n:Nat}{l:List (Ac (n+1))}{i:Nat}{a:Ac (n+1)}(b:l[i]?=some a)(d:Dg):qA self (l.take (i+1)) d=(qA self (l.take i) d).bind (sV self a):=by
 rw[dw,b,oI];congr 1;funext x;show qA self [a] x=sV self a x;simp only[qA];cases sV self a x<;>rfl
theorem Fx(self:Int){n:Nat}{l:List (Ac (n+1))}{i:Nat}{d:Dg}(a:qA self (l.take i) d=none):qA self l d=none:=by
 rw[<-im i l,oI,a];rfl
section
variable {base db:Nat} {self:Int} {n D k:Nat} {nx:Int} {d:Dg} {w:World} {l:List (Tm (D+1))} {bg bc:Nat} {sd:List (Int×Tm (D+1+n+1))} {sp:List (Int×ByteArray×Tm (D+1+n+1))} {sv pv lv:Value}
theorem vS.from{a:Ac (n+1)}{S:Nat->Prop}{W w':World}{t:Bool}(b:vS base db self n D k nx d a S W t w')(c:Below w.heap.size w W):vS base db self n D k nx d a S w t w':=⟨(aC c S).trans b.1 λ_ _ e=>e,b.2.1,λh l=>by
 obtain⟨o,g,f,s,u,v,r,p,i,j⟩:=b.2.2 h l;refine⟨o,g,f,s,u,v,r,p,i,λq m=>?_⟩;rcases j q m with e|e
 ·exact ae e
 ·have:=c.size
  exact af (by omega)⟩
theorem gQ.later{B:Nat}{a:Ac (n+1)}{W:World}(b:gQ (n+1) B w a)(c:Below B w W):gQ (n+1) B W a:=⟨b.1,b.2.1.below c,b.2.2.1.below c,b.2.2.2⟩
theorem dV.stop(a:dV base db self n D k nx d w l bg bc sd sp sv pv lv):Do base db self n D (k+1) nx {d with stops:=true} (kD db bg sv pv lv) w (w.setCell ⟨db,6,none⟩ (.bool true))/\bf (kD db bg sv pv lv) w (w.setCell ⟨db,6,none⟩ (.bool true)):=by
 have e:=bH w db 6 (.bool true);obtain⟨t,u,v,C⟩:=a.frame (w':=w.setCell ⟨db,6,none⟩ (.bool true)) (e.mono λf _ b=>ae b) λf c=>ae c;obtain⟨g,r,s,m,B⟩:=a.own;have A:=e.size;obtain⟨x,y,z,p⟩:=a.few;refine⟨⟨l,bg,bc,sd,sp,sv,pv,lv,⟨(nb a.box).2.2.2.2 _,⟨g,r,s,by omega,by omega⟩,a.bnd,a.tells,λj o i=>⟨(a.row j o i).1.kee e m (λb=>g b.symm),t j o i⟩,λq=>?_,aT a.sRow e λf c b=>a.apart.1.1 (by rw[c,b]),aT a.pRow e λf c b=>a.apart.1.2.1 (by rw[c,b]),aT a.lRow e λf c b=>a.apart.1.2.2 (by rw[c,b]),a.sIs,a.pIs,u,v,a.apart,⟨by omega,by omega,by show d.links.length<=k+1;omega,p⟩⟩,λf c=>ae c⟩,e.mono λf _ b=>ae b⟩;have h:=a.free q;unfold World.frozen? at h ⊢;rw[e.block bg m (λb=>g b.symm)];exact h
theorem dV.one(c:dV base db self n D k nx d w l bg bc sd sp sv pv lv)(a:Ac (n+1))(m:gQ (n+1) base w a)(A:JU a)(p:1<=self/\self<=99)(y:k<=7):Calls Tryz.prog 119 #[.pointer (some ⟨db,0,none⟩),KX a] w λe w'=>∃t,e=.returned (.bool t)/\Hid (vS base db self n D k nx d a (kD db bg sv pv lv) w t w'):=by
 obtain⟨f,r,s⟩:=A;have o:=c.own.2.2.2.2;refine Gj a.1 a.2.1.1.1.1 a.2.1.1.1.2.1 a.2.1.1.1.2.2 a.2.1.1.2.1.1 a.2.1.1.2.2.length a.2.1.1.2.1.2 a.2.1.2.1.1 a.2.1.2.1.2.1 a.2.1.2.1.2.2 a.2.1.2.2.1.1 a.2.1.2.2.2.length a.2.1.2.2.1.2 a.2.2.1 a.2.2.2 db w (vS base db self n D k nx d a (kD db bg sv pv lv) w) c.lt ⟨d.stops,ab c.box 6,r7 c.box 6⟩ ?_ ?_ ?_ ?_
 ·intro i h b;refine((c.later b).send a (m.later (b.mono o)) (r (ae i)) (s (ae i)) i p (by omega)).mono ?_;rintro e w' ⟨t,rfl,g⟩;exact⟨t,rfl,g.out.from b⟩
 ·intro j h b;have x:cg a.2.2.1=true/\0<=a.2.2.2/\a.2.2.2<4:=by
   have z:¬a.1=1:=by omega
   unfold lU at f;rw[if_neg z,if_pos j]at f;simp only[az,bN]at f;exact⟨f.1.1.2,f.1.2,f.2⟩
  refine((c.later b).spawn a (m.later (b.mono o)) (s (af j)) j x.1 x.2 p y).mono ?_;rintro e w' ⟨t,rfl,g⟩;exact⟨t,rfl,g.out.from b⟩
 ·intro q h b;refine((c.later b).link a (m.later (b.mono o)) (r (af q)) q p (by omega)).mono ?_;rintro e w' ⟨t,rfl,g⟩;exact⟨t,rfl,g.out.from b⟩
 ·intro B C E h b;have u:sV self a d=some {d with stops:=true}:=by
   unfold sV;rw[if_neg B,if_neg C,if_neg E]
  obtain⟨F,G⟩:=(c.later b).stop;refine vS.from ⟨G,by rw[u];rfl,λH v=>?_⟩ b;rw[u]at v;obtain rfl:=ap v;exact F
theorem dV.all(H:dV base db self n D 0 nx d w l bg bc sd sp sv pv lv)(ac:List (Ac (n+1)))(L:Option Addr)(U:Nat)(O:oF base w 11 (fy (n+1)) (gQ (n+1) base w) L ac)(ad:∀a∈ac,JU a)(X:ac.length<=8)(ah:1<=self/\self<=99):Calls Tryz.prog 88 #[.pointer (some ⟨db,0,none⟩),.slice L ac.length U] w λe w'=>∃t,e=.returned (.bool t)/\Hid (bf (kD db bg sv pv lv) w w'/\t=(qA self ac d).isSome/\∀g,qA self ac d=some g->Do base db self n D 8 nx g (kD db bg sv pv lv) w w'):=by
 have ab:=H.own.2.2.2.2;have R:∀{c:World},bf (kD db bg sv pv lv) w c->Below base w c:=λj=>j.below ab λb Y k=>by
  have:=H.high b k;omega
 refine(Fa ac L ac.length U db w (λi c=>bf (kD db bg sv pv lv) w c/\∃g,qA self (ac.take i) d=some g/\Do base db self n D i nx g (kD db bg sv pv lv) w c) (λc=>bf (kD db bg sv pv lv) w c/\qA self ac d=none) (by omega) rfl ?_ ?_ ?_ ?_).mono ?_
 ·rintro i a c h ⟨j,_⟩;rcases O with e|⟨b,o,e,S,J⟩
  ·rw[e]at h;simp at h
  ·exact⟨b,o,e,λT av aa=>((R j).cell (p:=⟨b,o+i*11+T,none⟩) S).trans ((J i a h).1 T av aa)⟩
 ·rintro i c aw ⟨j,g,I,z,x,v,C,E,F,B,A,q,m⟩ N;exact⟨j.trans (aC N (λ_=>False)) λ_ _ e=>e.elim,g,I,z,x,v,C,E,F,B,A,q.later N,m⟩
 ·rintro i a c h ⟨j,g,I,z,x,v,C,E,F,B,A,q,m⟩;have ax:=(aK.1 h).1;have Z:gQ (n+1) base c a:=by
   rcases O with e|⟨b,o,e,S,J⟩
   ·rw[e]at h;simp at h
   ·exact((J i a h).2).later (R j)
  refine(q.one a Z (ad a (ay h)) ah (by omega)).mono ?_;rintro e w' ⟨t,rfl,u⟩;obtain⟨s,f,M⟩:=u.out;have y:=Fz self h d;rw[I]at y;simp only[dk]at y;have Q:bf (kD db bg sv pv lv) w w':=j.trans s λb Y k=>by
   rcases m b k with e|e
   ·exact e
   ·omega
  refine⟨t,rfl,λaj=>⟨Q,?_⟩,λai=>⟨Q,?_⟩⟩
  ·rw[aj]at f;obtain⟨G,r⟩:=fL.1 f.symm;obtain⟨am,W,V,aq,ar,au,ao,an,ak,al⟩:=M G r;refine⟨G,by rw[y,r],am,W,V,aq,ar,au,ao,an,ak,λk K=>?_⟩;rcases al k K with e|e
   ·exact m k e
   ·have:=j.size;exact af (by omega)
  ·rw[ai]at f;refine Fx self (i:=i+1) ?_;rw[y];exact jT.1 (by rw[<-jV,<-f];rfl)
 ·exact⟨bf.refl _ _,d,rfl,l,bg,bc,sd,sp,sv,pv,lv,H,λk K=>ae K⟩
 ·rintro e w' ⟨t,rfl,u⟩;refine⟨t,rfl,?_⟩;cases t
  ·obtain⟨s,f⟩:=u.out.2 rfl;refine⟨s,by rw[f];rfl,λg P=>?_⟩;rw[f]at P;cases P
  ·obtain⟨s,g,f,M⟩:=u.out.1 rfl;rw[bk (ag _)]at f;refine⟨s,by rw[f];rfl,λG r=>?_⟩;rw[f]at r;obtain rfl:=ap r;obtain⟨z,x,v,C,E,F,B,A,q,m⟩:=M;exact⟨z,x,v,C,E,F,B,A,q.more X,m⟩
end
theorem CG(N:Nat):bA (N+1) (aS 1 0 N)=0/\aF (N+1) (aS 1 0 N)=true/\sz (N+1) (aS 1 0 N)=0:=by
 have c:bO (N+1) (aS 1 0 N)=true:=by
  rw[<-aJ];intro a b;have:a=((1,0,.empty),(none,0,0)):=by simpa [aq,aS]using b
  subst this;simp[bT,kK]
 exact⟨bv.2 ⟨c,by simp[eW,aS],by simp[sz,aS]⟩,by simp[aF,aS],by simp[sz,aS]⟩
theorem zh{ws:List Wd}{nm:List ByteArray}{N:Nat}:dA ws nm (N+1) (aS 1 0 N) (1,0):=⟨λa=>by simp[aS]at a,λa=>by simp[aS]at a,λ_ _=>rfl⟩
theorem jq.numb{N:Nat}{ws:List Wd}{nm:List ByteArray}{room:Int}{r:Wd}{h:List Wd}{s:Tm (N+1)}{g:List (Tm (N+1))}(i:jq (N+1) ws nm room (r::h) (s::g)):jq (N+1) ws nm room ((1,0)::h) (aS 1 0 N::g):=by
 obtain⟨e,f,j,k,l,m,n,o⟩:=i;obtain⟨p,q,u⟩:=CG N;refine⟨⟨by simpa using e.1,λc t d b a=>?_⟩,?_,λd a=>?_,?_,l,m,n,o⟩
 ·cases c with
  | zero=>
   simp only[cH,jW]at b a;subst b a;exact zh
  | succ c=>exact e.2 (c+1) t d (by simpa using b) (by simpa using a)
 ·simp only[bj]at f ⊢;rw[lC (by decide),lM];exact(eH.1 f).2.1
 ·rcases br.1 a with rfl|a
  ·exact⟨p,q⟩
  ·exact j d (bR _ a)
 ·simp only[aH,bt]at k ⊢;have:=(eC (N+1) s).1;omega
theorem jq.turned{N:Nat}{ws:List Wd}{nm:List ByteArray}{room:Int}{C v:Wd}{vs:List Wd}{s x:Tm (N+1)}{ms:List (Tm (N+1))}(n:jq (N+1) ws nm room (C::vs++ [v]) (s::ms++ [x]))(f:vs.length=ms.length):jq (N+1) ws nm room (v::vs) (x::ms):=by
 obtain⟨g,h,u,w,y,z,A,B⟩:=n;refine⟨⟨by simp[f],λd D e c a=>?_⟩,?_,λe a=>u e ?_,?_,y,z,A,B⟩
 ·cases d with
  | zero=>
   simp only[cH,jW]at c a;subst c a;exact g.2 (vs.length+1) v x (by simp) (by simp[f])
  | succ d=>
   simp only[cT]at c a;have o:=(aK.1 c).1;have p:=(aK.1 a).1;exact g.2 (d+1) D e (by rw[fq,cT,cY o];exact c) (by rw[fq,cT,cY p];exact a)
 ·simp only[fq,bj,jM,List.flatMap_nil,ee]at h ⊢;obtain⟨_,t,_⟩:=eH.1 h;obtain⟨j,k,l⟩:=eH.1 t;exact eH.2 ⟨k,j,λi q b r m=>l b r i q m.symm⟩
 ·rcases br.1 a with rfl|a
  ·simp
  ·simp[a]
 ·simp only[fq,aH,ft,bt,List.sum_append,bQ,iV]at w ⊢;have:=(eC (N+1) s).1;omega
theorem pZ(w:World)(c:Nat)(a b:Int):bD (λq=>q=c) w (sn w c a b):=(aY w c 5 (.int .i64 a)).trans (aY _ c 6 (.int .i64 b)) λ_ _ e=>e
theorem GP(w:World)(c:Nat)(a b:Int):(sn w c a b).heap.size=w.heap.size:=by simp[sn,World.setCell]
theorem gB{S:Nat->Prop}{w w':World}(a:bD S w w'):bf S w w':=⟨a.os,a.tape,a.output,a.size,a.block⟩
theorem iE{S:Nat->Prop}{w w':World}(a:bf S w w'):bD S w w':=⟨a.os,a.tape,a.output,a.size,a.block⟩
section
variable {base pb:Nat} {name:ByteArray} {room:Int} {N:Nat} {s:Tm (N+1)} {ms:List (Tm (N+1))} {xs:List (Wd×Tm (N+1))} {nk:Nat} {M:Nat->Prop} {w:World} {ws:List Wd} {nm:List ByteArray} {sv:Wd} {vs:List Wd} {ma:Option Addr} {mc:Nat} {Mh:Nat->Prop}
theorem jd.keptBox{v:Wd}(h:jd Mh ma vs mc w)(i:Mh pb):jd Mh ma vs mc (sn w pb v.1 v.2):=by
 rcases h with a|⟨d,j,e,f,b,c,g⟩
 ·exact ae a
 ·exact af ⟨d,j,e,f,b,((pZ w pb v.1 v.2).block d (aE.1 c).1 λa=>b (by rw[a];exact i)).trans c,g⟩
theorem dy.word{mv:Value}{v:Wd}(a:dy base (PL pb name sv mv) room ws nm M w):dy base (PL pb name v mv) room ws nm M (sn w pb v.1 v.2):=a.turn (pZ w pb v.1 v.2) λtv lv mp b=>by
 unfold sn World.setCell;simp[bJ,b]
theorem cd.numb(a:cd base pb name room (N+1) s ms [] nk M w ws nm sv vs ma mc Mh):cd base pb name room (N+1) (aS 1 0 N) ms [] nk M (sn w pb 1 0) ws nm (1,0) vs ma mc Mh/\bD M w (sn w pb 1 0):=by
 obtain⟨d,f⟩:=a.box0;have c:=a.has;simp only[bQ,ee]at c;refine⟨⟨a.heap.word (v:=(1,0)),a.mail.keptBox (v:=(1,0)) d,?_,a.len,a.names,a.inM,a.mailM⟩,(pZ w pb 1 0).mono λb e=>?_⟩
 ·simp only[bQ,ee];exact c.numb
 ·rw[e];exact a.inM pb d
theorem cd.turned{v:Wd}{x:Tm (N+1)}(a:cd base pb name room (N+1) s ms [(v,x)] nk M w ws nm sv vs ma mc Mh):cd base pb name room (N+1) x ms [] nk M (sn w pb v.1 v.2) ws nm v vs ma mc Mh/\bD M w (sn w pb v.1 v.2):=by
 obtain⟨d,f⟩:=a.box0;have c:=a.has;simp only[aH,bQ]at c;refine⟨⟨a.heap.word,a.mail.keptBox d,?_,a.len,a.names,a.inM,a.mailM⟩,(pZ w pb v.1 v.2).mono λb e=>?_⟩
 ·simp only[bQ,ee];exact c.turned a.len
 ·rw[e];exact a.inM pb d
theorem cd.cells56(e:cd base pb name room (N+1) s ms xs nk M w ws nm sv vs ma mc Mh):(∃a,w.cell? ⟨pb,5,none⟩=some (.int .i64 a))/\(∃a,w.cell? ⟨pb,6,none⟩=some (.int .i64 a))/\∀j,w.frozen? ⟨pb,j,none⟩=false:=by
 obtain⟨i,g,h,f,_⟩:=e.heap.box;obtain⟨_,b,c,_,d,_⟩:=PL.cells f;exact⟨⟨_,b⟩,⟨_,c⟩,d⟩
def K0(base pb:Nat)(name:ByteArray)(room:Int)(N:Nat)(s:Tm (N+1))(ms:List (Tm (N+1)))(x:Tm (N+1))(nk:Nat)(M:Nat->Prop)(w:World)(t:Bool)(w':World):Prop:=
 t=decide ((ms.map (sz (N+1))).sum+sz (N+1) x<=room)/\bD M w w'/\∃a i f g h d e c,cd base pb name room (N+1) a ms [] (nk+402) (λb=>M b\/w.heap.size<=b) w' i f g h d e c/\(t=true->a=x)/\(t=false->aw (N+1) a (N+1) s=true)
theorem vx{x:Tm (N+1)}{ms:List (Tm (N+1))}(a:bA (N+1) x=0)(b:aF (N+1) x=true):qJ (N+1) x room (aS 1 0 N::ms)=if (ms.map (sz (N+1))).sum+sz (N+1) x<=room then 0 else 6:=by
 unfold qJ;rw[if_neg (by simp[a]),if_neg (by simp[b])];simp only[aH,bt,(CG N).2.2,Int.zero_add]
theorem cd.become(k:cd base pb name room (N+1) s ms [] nk M w ws nm sv vs ma mc Mh)(x:Tm (N+1))(az:In w.heap.size w (N+1) x)(L:ch (λb=>¬M b) (N+1) x)(E:bA (N+1) x=0)(ah:aF (N+1) x=true)(m:∀b,M b->b<w.heap.size)(a2:nk<=48000)(B:ms.length<=999)(a1:base<=w.heap.size):Calls Tryz.prog 90 #[.pointer (some ⟨pb,0,none⟩),.agg #[.int .i64 x.1.1,.int .i64 x.1.2.1,.string x.1.2.2,.slice x.2.1.1 x.2.2.length x.2.1.2]] w λe w'=>∃t,e=.returned (.bool t)/\Hid (K0 base pb name room N s ms x nk M w t w'):=by
 obtain⟨an,ao⟩:=k.box0;have a0:M pb:=k.inM pb an;have u:=k.front;have P:=u.2.2.1 s (by simp);have ax:(ms.map (sz (N+1))).sum+sz (N+1) s<=room:=by
  have ag:=u.2.2.2.1;have aZ:=u.2.2.2.2.1;simp only[aH,bt]at ag;omega
 refine xT x.1.1 x.1.2.1 x.1.2.2 x.2.1.1 x.2.2.length x.2.1.2 pb w (λT U V sa sl sc f=>∃y0:Tm (N+1),(T=y0.1.1/\U=y0.1.2.1/\V=y0.1.2.2/\sa=y0.2.1.1/\sl=y0.2.2.length/\sc=y0.2.1.2)/\In f.heap.size f (N+1) y0/\ch (λa=>w.heap.size<=a) (N+1) y0/\aw (N+1) y0 (N+1) s=true) (λ_ _ _ _=>True) (K0 base pb name room N s ms x nk M w) ?_ ?_ ?_
 ·intro f d;refine((k.later d).state (by omega)).mono ?_;rintro e w' ⟨aW,rfl,o⟩;exact⟨_,_,_,_,_,_,rfl,o.out.1,aW,⟨rfl,rfl,rfl,rfl,rfl,rfl⟩,o.out.2.1,o.out.2.2.1.mono λa O=>by have:=d.size;omega,o.out.2.2.2⟩
 ·intro f d;obtain⟨ad,b,c⟩:=(k.later d).cells56;exact⟨ad,b,c,ao⟩
 ·rintro T U V sa sl sc aY j aO aP ⟨y0,⟨rfl,rfl,rfl,rfl,rfl,rfl⟩,Q,R,q⟩ D r a3 a4 p;have a6:=r.size;obtain⟨ak,I⟩:=(k.later r).numb;have a8:=GP j pb 1 0;have H:bD M w (sn j pb 1 0):=(aR r M).trans I λ_ _ e=>e;have aA:In (sn j pb 1 0).heap.size (sn j pb 1 0) (N+1) x:=az.kee (gB H) L;have ap:=ak.put x aA L (eU E) (λb h=>by have:=m b h;omega) (by omega) B (by omega);refine ap.mono ?_;rintro e w' ⟨W,rfl,Y⟩;obtain⟨aU,aM,ba,aS,aI,aK,aa,i,n⟩:=Y.out;have F:=vx (room:=room) (ms:=ms) E ah;have K:bD M w w':=H.trans n λ_ _ e=>e;have a7:=n.size;refine⟨W,_,rfl,⟨?_,?_,i.cells56.1,i.cells56.2.1,i.cells56.2.2⟩,trivial,?_,?_⟩
  ·exact(n.block aO (aE.1 p.1).1 λa=>by have:=m _ a;omega).trans p.1
  ·exact(n.block aP (aE.1 p.2.1).1 λa=>by have:=m _ a;omega).trans p.2.1
  ·intro g f d;rw[if_pos g]at i;obtain⟨z,v⟩:=(i.later d).turned;rw[F]at g;have ai:(ms.map (sz (N+1))).sum+sz (N+1) x<=room:=by
    by_cases a:(ms.map (sz (N+1))).sum+sz (N+1) x<=room
    ·exact a
    ·rw[if_neg a]at g;cases g
   refine⟨by simp[ai],(K.trans (aR d M) λ_ _ e=>e).trans v λb h a=>?_,x,aU,aM,W,aS,aI,aK,aa,z.mono (λb a=>?_) (by omega),λ_=>rfl,λa=>by cases a⟩
   ·rcases a with a|a
    ·exact a
    ·omega
   ·rcases a with a|a
    ·exact ae a
    ·exact af (by omega)
  ·intro g f aQ d a5 aq;rw[if_neg g]at i;have aj:¬(ms.map (sz (N+1))).sum+sz (N+1) x<=room:=λa=>g (by rw[F,if_pos a]);have am:=(i.inside.later d);have av:=d.size;have aG:=In.offB R Q;have au:=D.size;have A:bA (N+1) y0=0/\aF (N+1) y0=true:=⟨(bI q).trans P.1,(cw _ _ _ _ q).trans P.2⟩;have aB:In j.heap.size j (N+1) y0:=(Q.below D).mono au;have S:ch (λb=>¬M b) (N+1) y0:=R.mono λa O l=>by have:=m a l;omega
   have aC:In w'.heap.size w' (N+1) y0:=(aB.kee (gB I) S).kee (gB n) S;have aD:In f.heap.size f (N+1) y0:=(aC.below d).mono av;have G:=vx (room:=room) (ms:=ms) A.1 A.2;have ay:=kO _ _ _ _ q;rw[if_pos (by rw[ay];exact ax)]at G;refine(am.put y0 aD (aG.mono λa O l=>?_) (eU A.1) (λb h=>by have:=h.2;omega) (by omega) B (by omega)).mono ?_
   ·rcases l.1 with l|l
    ·have:=m a l;omega
    ·omega
   ·rintro e bc ⟨X,rfl,Z⟩;obtain⟨aV,aN,bb,aT,aJ,aL,ab,y,J⟩:=Z.out;rw[if_pos G]at y;refine⟨X,_,rfl,λa9 al=>(J.block aQ aq λa=>by have:=a.2;omega).trans al,y.cells56,λaX C=>?_⟩;have ar:=y.kept (iE C) λb a _ e=>by
     rcases a with a|a
     ·have:=a.2;omega
     ·omega
    obtain⟨z,v⟩:=ar.turned;refine⟨by simp[aj],?_,y0,aV,aN,X,aT,aJ,aL,ab,z.mono (λb a=>?_) (by omega),λa=>(by cases a),λ_=>q⟩
    ·refine((((K.trans (aR d M) λ_ _ e=>e).trans J λb h a=>?_).trans (iE C) λb h a=>?_)).trans v λb h a=>?_
     ·rcases a.1 with a|a
      ·exact a
      ·omega
     ·omega
     ·rcases a with a|a
      ·rcases a.1 with a|a
       ·exact a
       ·omega
      ·omega
    ·rcases a with a|a
     ·rcases a.1 with a|a
      ·exact ae a
      ·exact af (by omega)
     ·exact af (by omega)
end
theorem iB{n:Nat}{x:Tm (n+1)}(g:bA (n+1) x=0){y:Tm n}(a:y∈x.2.2):bA n y=0:=by
 obtain⟨d,i,e⟩:=bv.1 g;have c:aB ⟨n+1,x⟩:=aJ.2 d;have j:=mL c a;have f:=eh (bm n x) (c (bm n x) (by simp[aq,bm]));have b:x.1.1=4:=by
  by_cases b:x.1.1=4
  ·exact b
  ·have:x.2.2=[]:=bK (f.2.2.2.2 b);rw[this]at a;cases a
 have h:=sh (λy=>1+sz n y) (λy=>by have:=(eC n y).1;omega) x.2.2 y a;simp only[sz,if_pos b]at e
 exact bv.2 ⟨aJ.1 (aU n x y c a),by omega,by
  have k:1+sz n y<=(x.2.2.map λy=>1+sz n y).sum:=h.1
  omega⟩
theorem wg{n:Nat}{x:Tm (n+1)}(a:bA (n+1) x=0)(i:Nat){y:Tm n}(b:x.2.2[i]?=some y):bA n y=0:=iB a (ay b)
theorem pf{n N:Nat}(c:n<=N)(x:Tm (n+1))(a:bA (N+1) (aI (N+1) (n+1) x)=0):bA (n+1) x=0:=by
 have e:aB ⟨n+1,x⟩:=λb d=>(aJ.2 (bv.1 a).1) b (by rw[l7 N n c x];exact d);rw[<-bI (gd (N+1) (n+1) (by omega) x e)];exact a
def Hz{n:Nat}(c:Cl (n+1)):Prop:=bA (n+1) c.1.1=0/\bA (n+1) c.1.2.1=0/\bA (n+1) c.1.2.2=0/\c.2.2.length<=8/\∀a∈c.2.2,JU a
theorem Ja{n:Nat}{p:List (Bh (n+1))}(d:mz n p=0):jy (n+1) p=true/\∀b∈p,b.2.2.length<=6/\∀c∈b.2.2,Hz c:=by
 unfold mz at d;cases e:jy (n+1) p with
 | false=>rw[e]at d;cases d
 | true=>
  rw[e,if_pos rfl]at d;refine⟨rfl,λb l=>?_⟩;unfold jy at e;simp only[az,bS]at e;have h:=e.2 b l;unfold sI at h;simp only[az,bS,bN]at h;refine⟨by omega,λc m=>?_⟩;have i:=h.2 c m;unfold ri at i;simp only[az,bS,bN]at i;have o:bA (n+5) (ek n b)=0:=iB d (by simp only[cR,cM];exact bR _ (List.mem_map_of_mem l));have f:bA (n+4) (eD n c)=0:=iB o (by simp only[ek,cM];exact bR _ (bR _ (List.mem_map_of_mem m)));have s:bA (n+3) (cM (n+2) (c.2.2.map (de n)))=0:=wg f 3 rfl;refine⟨pf (N:=n+2) (by omega) _ (wg f 1 rfl),pf (N:=n+2) (by omega) _ (wg f 2 rfl),pf (N:=n+2) (by omega) _ (wg f 4 rfl),by omega,λj k=>?_⟩;have g:bA (n+2) (de n j)=0:=iB s (by simp only[cM];exact List.mem_map_of_mem k);refine⟨i.2 j k,λr=>?_,λq=>?_⟩
  ·rcases r with a|a
   ·exact iB g (by simp[de,a,cM])
   ·exact iB g (by simp[de,a,cM])
  ·rcases q with a|a
   ·exact iB g (by simp[de,a,cM])
   ·exact iB g (by simp[de,a,cM])
section
variable {base db:Nat} {self:Int} {n D k:Nat} {nx:Int} {d:Dg} {w:World} {l:List (Tm (D+1))} {bg bc:Nat} {sd:List (Int×Tm (D+1+n+1))} {sp:List (Int×ByteArray×Tm (D+1+n+1))} {sv pv lv:Value}
theorem dV.kept(a:dV base db self n D k nx d w l bg bc sd sp sv pv lv){S:Nat->Prop}{w':World}(i:bf S w w')(m:∀b,base<=b->b<w.heap.size->¬S b):dV base db self n D k nx d w' l bg bc sd sp sv pv lv:=by
 have Q:=i.size;obtain⟨L,B,v,p,R⟩:=a.own;have s:∀{g:Nat}{y:Tm g},In w.heap.size w g y->ch (Hv base db bg sv pv lv) g y->In w'.heap.size w' g y:=λG H=>G.kee (i.mono (T:=λb=>S b/\b<w.heap.size) λb E f=>⟨f,E⟩) (H.mono λf h (e:S f/\f<w.heap.size)=>m f h.1 e.2 e.1);have u:∀{q:TypeId}{e g:Nat}{x:Value}{z:List Value},w.ownsRow base q e x g z->w'.ownsRow base q e x g z:=λ{q e g x z} t=>aT t i λf h o=>by
  obtain⟨N,F⟩:=dT t f h;refine m f ?_ (aE.1 F).1 o;rcases t.2 with⟨r,_⟩|⟨C,cap,O,r,P,_⟩
  ·rw[r]at h;cases h
  ·rw[r]at h;have:C=f:=ap h;omega
 refine⟨(i.block db a.lt (m db B a.lt)).trans a.box,⟨L,B,v,by omega,by omega⟩,a.bnd,a.tells,λJ M I=>?_,λK=>?_,u a.sRow,u a.pRow,u a.lRow,a.sIs,a.pIs,λe o=>?_,λe o=>?_,a.apart,a.few⟩
 ·obtain⟨j,b,c⟩:=a.row J M I;exact⟨j.kee i p (m bg v p),s b c,c⟩
 ·have A:=a.free K;unfold World.frozen? at A ⊢;rw[i.block bg p (m bg v p)];exact A
 ·obtain⟨j,b,c⟩:=a.sIn e o;exact⟨j,s b c,c⟩
 ·obtain⟨j,b,c⟩:=a.pIn e o;exact⟨j,s b c,c⟩
theorem dV.low(b:dV base db self n D k nx d w l bg bc sd sp sv pv lv):∀q,kD db bg sv pv lv q->q<w.heap.size:=by
 have c:∀{f:TypeId}{i g q:Nat}{e:Value}{h:List Value},w.ownsRow base f i e g h->e.ownBlock=some q->q<w.heap.size:=λ{f i g q e h} m a=>by
  obtain⟨o,j⟩:=dT m q a;exact(aE.1 j).1
 intro q a;rcases a with rfl|rfl|a|a|a
 ·exact b.lt
 ·exact b.own.2.2.2.1
 ·exact c b.sRow a
 ·exact c b.pRow a
 ·exact c b.lRow a
def Ld(u t:Nat)(name:ByteArray)(room:Int)(s:Tc)(ms:List Tc)(q:Nat)(M:Nat->Prop)(base db:Nat)(self:Int)(n D:Nat)(nx:Int)(c:Cl (n+1))(b:List Tc)(S:Nat->Prop)(w:World)(f:Int)(w':World):Prop:=
 f=(eV room self nx (cn 13 s) (cn 13 s) (ms.map (cn 13)) c b).fate/\bf (λa=>M a\/S a) w w'/\(∃j z r e y o p k,cd u t name room 13 j ms [] (q+402) (λa=>M a\/w.heap.size<=a) w' z r e y o p k/\cn 13 j=(eV room self nx (cn 13 s) (cn 13 s) (ms.map (cn 13)) c b).state)/\
  ((f=0\/f=1)->∃d m g l v x e i h,dV base db self n D 8 nx d w' m g l v x e i h/\d.sends=(eV room self nx (cn 13 s) (cn 13 s) (ms.map (cn 13)) c b).sends/\d.spawns=(eV room self nx (cn 13 s) (cn 13 s) (ms.map (cn 13)) c b).spawns/\d.links=(eV room self nx (cn 13 s) (cn 13 s) (ms.map (cn 13)) c b).links/\∀a,kD db g e i h a->¬(M a\/w'.heap.size<=a))
theorem KK{ms:List Tc}(a:∀y∈ms,bA 13 y=0):((ms.map (cn 13)).map (sz 13)).sum=(ms.map (sz 13)).sum:=by
 rw[fu];congr 1;exact iT λy b=>Cm (a y b)
theorem AQ{Q I:Nat}{name:ByteArray}{room:Int}{s:Tc}{ms:List Tc}{P:Nat}{M:Nat->Prop}{ws:List Wd}{nm:List ByteArray}{an:Wd}{vs:List Wd}{ma:Option Addr}{ak:Nat}{Mh:Nat->Prop}{b:List Tc}(aZ:cd Q I name room 13 s ms [] P M w ws nm an vs ma ak Mh)(T:dV base db self n D 0 nx d w l bg bc sd sp sv pv lv)(ay:d=⟨b,nx,[],[],[],false⟩)(c:Cl (n+1))(aU:gj (n+1) base w c)(bk:Hz c)(a0:1<=self/\self<=99)(L:∀q,M q->q<base)(bJ:Q<=base)(bj:P<=48000)(bd:ms.length<=999):Calls Tryz.prog 61 #[.pointer (some ⟨I,0,none⟩),.agg (ex (n+1) c).toArray,.pointer (some ⟨db,0,none⟩)] w λe w'=>∃f,e=.returned (.int .i64 f)/\Ld Q I name room s ms P M base db self n D nx c b (kD db bg sv pv lv) w f w':=by
 obtain⟨bG,bH,aR,a8,a9⟩:=bk;have aD:=T.own.2.2.2.2;have bh:∀{h:World},bf (kD db bg sv pv lv) w h->Below base w h:=λm=>m.below aD λb E q=>by
  have:=T.high b q;omega
 have aG:∀{h:World},bf (kD db bg sv pv lv) w h->cd Q I name room 13 s ms [] P M h ws nm an vs ma ak Mh:=λm=>aZ.kept (N:=12) (iE m) λb E _ q=>by
  have:=L b E;have:=T.high b q;omega
 have az:∀{h:World},bf (kD db bg sv pv lv) w h->bf (λq=>M q\/kD db bg sv pv lv q) w h:=λm=>m.mono λq _ a=>af a;have bi:∀g∈ms,bA 13 g=0:=λg bq=>(aZ.front.2.2.1 g (bR _ bq)).1
 refine yE (D+1+n) c.1.1.1.1 c.1.1.1.2.1 c.1.1.1.2.2 c.1.1.2.1.1 c.1.1.2.2.length c.1.1.2.1.2 c.1.2.1.1.1 c.1.2.1.1.2.1 c.1.2.1.1.2.2 c.1.2.1.2.1.1 c.1.2.1.2.2.length c.1.2.1.2.1.2 c.2.1.1 c.2.2.length c.2.1.2 c.1.2.2.1.1 c.1.2.2.1.2.1 c.1.2.2.1.2.2 c.1.2.2.2.1.1 c.1.2.2.2.2.length c.1.2.2.2.1.2 I db w
  (λh=>bf (kD db bg sv pv lv) w h/\∃i x v u A B C z y,qA self c.2.2 d=some i/\dV base db self n D 8 nx i h x v u A B C z y)
  (λt g S=>∃h i x v u A B C z y,bf (kD db bg sv pv lv) w h/\qA self c.2.2 d=some i/\dV base db self n D 8 nx i h x v u A B C z y/\Below h.heap.size h S/\In S.heap.size S (D+1+n+1) g/\ch (λq=>h.heap.size<=q) (D+1+n+1) g/\t=(qn i.b self (n+1) c.1.2.2).isSome/\∀r,qn i.b self (n+1) c.1.2.2=some r->bA _ g=0/\aF _ g=true/\cn _ g=r)
  (Ld Q I name room s ms P M base db self n D nx c b (kD db bg sv pv lv) w) ?_ ?_ ?_ ?_
 ·intro h Y;refine((T.later Y).all c.2.2 c.2.1.1 c.2.1.2 ?_ a9 a8 a0).mono ?_
  ·rcases aU.2.2 with e|⟨q,o,e,a,aV⟩
   ·exact ae e
   ·exact af ⟨q,o,e,a,λaN aQ aX=>⟨λa2 bD be=>(Y.cell (p:=⟨q,o+aN*11+a2,none⟩) (aL a aD)).trans ((aV aN aQ aX).1 a2 bD be),((aV aN aQ aX).2).later (Y.mono aD)⟩⟩
  ·rintro e w' ⟨t,rfl,av⟩;obtain⟨ao,J,aO⟩:=av.out;have m:bf (kD db bg sv pv lv) w w':=(aC Y _).trans ao λ_ _ e=>e;refine⟨t,rfl,λq bM a aY=>(ao.block q (aE.1 aY).1 λk=>by have:=T.low q k;omega).trans aY,λG=>⟨m,?_⟩,λaa=>?_⟩
   ·rw[G]at J;obtain⟨aS,aW⟩:=fL.1 J.symm;obtain⟨bs,a7,a6,bx,bz,R,bu,bt,br,_⟩:=aO aS aW;exact⟨aS,bs,a7,a6,bx,bz,R,bu,bt,aW,br⟩
   ·rw[aa]at J;have Z:qA self c.2.2 d=none:=jT.1 (by rw[<-jV,<-J];rfl);rw[ay]at Z;have j:eV room self nx (cn 13 s) (cn 13 s) (ms.map (cn 13)) c b=⟨cn 13 s,2,[],[],[],cn 13 s,ms.map (cn 13)⟩:=by simp[eV,Z]
    refine⟨by rw[j],az m,⟨s,ws,nm,an,vs,ma,ak,Mh,(aG m).mono (N:=12) (λq a=>ae a) (by omega),by rw[j]⟩,λk=>?_⟩;omega
 ·rintro h ⟨m,i,x,v,u,A,B,C,z,y,F,K⟩;obtain⟨bB,bC⟩:=K.told (self:=self) c.1.2.2 aR;refine(K.value c.1.2.2 (aU.1.2.2.below (bh m)) aR a0 h (ah _ _)).mono ?_;rintro e w' ⟨g,rfl,a5⟩;obtain⟨y1,y2,aP,W⟩:=a5.out;exact⟨g,_,rfl,h,i,x,v,u,A,B,C,z,y,m,F,K,y1,y2,aP,bB,λr G=>bC g r G W⟩
 ·rintro g S aw ⟨h,i,x,v,u,A,B,C,z,y,m,F,K,y1,_,_,W,_⟩ E;have Z:qn i.b self (n+1) c.1.2.2=none:=jT.1 (by rw[<-jV,<-W];rfl);rw[ay]at F;have j:eV room self nx (cn 13 s) (cn 13 s) (ms.map (cn 13)) c b=⟨cn 13 s,2,[],[],[],cn 13 s,ms.map (cn 13)⟩:=by simp[eV,F,Z]
  have U:bf (kD db bg sv pv lv) w aw:=(m.trans (aC y1 (λ_=>False)) λ_ _ e=>e.elim).trans (aC E (λ_=>False)) λ_ _ e=>e.elim;refine⟨by rw[j],az U,⟨s,ws,nm,an,vs,ma,ak,Mh,(aG U).mono (N:=12) (λq a=>ae a) (by omega),by rw[j]⟩,λk=>?_⟩;omega
 ·rintro g S aw ⟨h,i,x,v,u,A,B,C,z,y,m,F,K,y1,y2,aP,W,bE⟩ E;obtain⟨r,G⟩:=fL.1 W.symm;obtain⟨au,bF,a4⟩:=bE r G;rw[ay]at F;have bL:=m.size;have bK:=y1.size;have bl:=E.size;have U:bf (kD db bg sv pv lv) w aw:=(m.trans (aC y1 (λ_=>False)) λ_ _ e=>e.elim).trans (aC E (λ_=>False)) λ_ _ e=>e.elim;have aM:aB ⟨D+1+n+1,g⟩:=aJ.2 (bv.1 au).1;have aK:eW (D+1+n+1) g<13:=by have:=(bv.1 au).2.1;omega
  have ai:=iF 13 (D+1+n+1) g aM aK;have bm:=qH 13 (D+1+n+1) g _ _ aM aK ((y2.below E).mono bl);have bo:=sf 13 (D+1+n+1) g _ aM aK aP;have bn:(aI 13 (D+1+n+1) g).2.2.length=g.2.2.length:=by simp[aI]
  have a1:cn 13 (aI 13 (D+1+n+1) g)=r:=(gw ai).trans a4;have bp:sz 13 (aI 13 (D+1+n+1) g)=sz 13 r:=by
   rw[kO _ _ _ _ ai,<-a4,Cm au]
  have aT:=(aG U).become (N:=12) (aI 13 (D+1+n+1) g) bm (bo.mono λq a k=>by have:=L q k;omega) ((bI ai).trans au) ((cw _ _ _ _ ai).trans bF) (λq k=>by have:=L q k;omega) bj bd (by omega);rw[bn]at aT;refine aT.mono ?_;rintro e w' ⟨t,rfl,av⟩;obtain⟨ao,J,ap,ar,am,R,aq,aj,al,X,aO,a3,bw⟩:=av.out;have O:t=decide (((ms.map (cn 13)).map (sz 13)).sum+sz 13 r<=room):=by
   rw[KK bi,<-bp];exact ao
  have aA:bf (λq=>M q\/kD db bg sv pv lv q) w w':=(az U).trans (gB J) λq _ a=>ae a
  have ax:cd Q I name room 13 ap ms [] (P+402) (λq=>M q\/w.heap.size<=q) w' ar am R aq aj al X:=aO.mono (N:=12) (λq a=>by
   rcases a with a|a
   ·exact ae a
   ·exact af (by omega)) (ag _)
  have H:dV base db self n D 8 nx i w' x v u A B C z y:=((K.later y1).later E).kept (gB J) λq a _ k=>by
   have:=L q k;omega
  refine⟨t,rfl,λaa=>?_,λad=>⟨i.stops,ab H.box 6,λaH=>?_,λaH=>?_⟩⟩
  ·rw[aa]at O;have V:¬((ms.map (cn 13)).map (sz 13)).sum+sz 13 r<=room:=of_decide_eq_false O.symm;have j:eV room self nx (cn 13 s) (cn 13 s) (ms.map (cn 13)) c b=⟨cn 13 s,3,[],[],[],cn 13 s,ms.map (cn 13)⟩:=by
    unfold eV;simp only[F,G];rw[if_neg V]
   refine⟨by rw[j],aA,⟨ap,ar,am,R,aq,aj,al,X,ax,by rw[j];exact gw (bw aa)⟩,λk=>?_⟩;omega
  ·rw[ad]at O;have V:((ms.map (cn 13)).map (sz 13)).sum+sz 13 r<=room:=eR O.symm;have j:eV room self nx (cn 13 s) (cn 13 s) (ms.map (cn 13)) c b=⟨cn 13 s,1,i.sends,i.spawns,i.links,r,ms.map (cn 13)⟩:=by
    unfold eV;simp only[F,G];rw[if_pos V,aH];rfl
   refine⟨by rw[j],aA,⟨ap,ar,am,R,aq,aj,al,X,ax,by rw[j,a3 ad];exact a1⟩,λ_=>⟨i,x,v,u,A,B,C,z,y,H,by rw[j],by rw[j],by rw[j],λq a k=>?_⟩⟩;have ba:=H.high q a;have bb:=H.low q a;rcases k with k|k
   ·have:=L q k;omega
   ·omega
  ·rw[ad]at O;have V:((ms.map (cn 13)).map (sz 13)).sum+sz 13 r<=room:=eR O.symm;have j:eV room self nx (cn 13 s) (cn 13 s) (ms.map (cn 13)) c b=⟨cn 13 s,0,i.sends,i.spawns,i.links,r,ms.map (cn 13)⟩:=by
    unfold eV;simp only[F,G];rw[if_pos V,aH];rfl
   refine⟨by rw[j],aA,⟨ap,ar,am,R,aq,aj,al,X,ax,by rw[j,a3 ad];exact a1⟩,λ_=>⟨i,x,v,u,A,B,C,z,y,H,by rw[j],by rw[j],by rw[j],λq a k=>?_⟩⟩;have ba:=H.high q a;have bb:=H.low q a;rcases k with k|k
   ·have:=L q k;omega
   ·omega
end
end Go.Proofs.YtnidfceinoiboaaGreat
