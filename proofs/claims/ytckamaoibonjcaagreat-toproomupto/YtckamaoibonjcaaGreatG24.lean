/- What is proved here: plain facts and contracts that the claimed theorem stands on. No condition but those that each names. -/
import Derived.Test.YtckamaoibonjcaaGreatG23
namespace Go.Proofs.YtckamaoibonjcaaGreat
open Go.RowKit
section
variable {base db:Nat} {self:Int} {n D k:Nat} {nx:Int} {d:Dg} {w:World} {l:List (Tm (D+1))} {bg bc:Nat} {sd:List (Int×Tm (D+1+n+1))} {sp:List (Int×ByteArray×Tm (D+1+n+1))} {sv pv lv:Value}
theorem K9{N:Nat}{o:Option (Tm N)}{c:Tm N}(a:nb 0 o=some c):bm N c=0:=by
 unfold nb at a;rw[if_pos rfl]at a;obtain⟨d,_,a⟩:=bj.1 a;by_cases b:bm N d=0
 ·rw[if_pos b]at a;rw[<-aq a];exact b
 ·rw[if_neg b]at a;cases a
theorem dR.told(e:dR base db self n D k nx d w l bg bc sd sp sv pv lv)(x:Tm (n+1))(h:bm (n+1) x=0):(nb 0 (vl (D+1) l self (n+1) x)).isSome=(qV d.b self (n+1) x).isSome/\∀(a:Tm (D+1+n+1)) t,qV d.b self (n+1) x=some t->au _ a (D+1+n+1) ((nb 0 (vl (D+1) l self (n+1) x)).getD (uZ (D+1+n)))=true->bm _ a=0/\aF _ a=true/\cn _ a=t:=by
 have m:=JF e.bnd e.tells self x h;refine⟨by rw[<-m,Option.isSome_map],λa t f c=>?_⟩;have p:=MU (I7 e.bnd e.tells) h f;rw[<-m]at f;obtain⟨q,o,rfl⟩:=b8.1 f;rw[o]at c;have c:au _ a _ q=true:=c;have i:=(bH c).trans (K9 o);have j:=gL c;refine⟨i,?_,j⟩;have g:=p.2.1;rw[<-j,lB i]at g;exact g
theorem dR.send(h:dR base db self n D k nx d w l bg bc sd sp sv pv lv)(a:Ac (n+1))(P:gZ (n+1) base w a)(ai:bm (n+1) a.2.1.1=0)(Q:bm (n+1) a.2.1.2=0)(aa:a.1=1)(V:1<=self/\self<=99)(aH:k<=1000):ah 161 #[.pointer (some ⟨db,0,none⟩),M0 a] w λe w'=>∃t,e=.returned (.bool t)/\Hid (xg base db self n D k nx d a (kI db bg sv pv lv) w t w'):=by
 have U:=h.sRow;obtain⟨y,z,rfl⟩:=lQ U;obtain⟨aD,aF,aG,Z⟩:=h.few;have s:qp self a d=(mF d.b self (n+1) a.2.1.1).bind λx=>(qV d.b self (n+1) a.2.1.2).map λt=>{d with sends:=d.sends++ [(x,t)]}:=by
  simp[qp,aa]
 obtain⟨al,am⟩:=h.told (self:=self) a.2.1.2 Q;refine(F9 (D+1+n) a.1 a.2.1.1.1.1 a.2.1.1.1.2.1 a.2.1.1.1.2.2 a.2.1.1.2.1.1 a.2.1.1.2.2.length a.2.1.1.2.1.2 a.2.1.2.1.1 a.2.1.2.1.2.1 a.2.1.2.1.2.2 a.2.1.2.2.1.1 a.2.1.2.2.2.length a.2.1.2.2.1.2 a.2.2.1 a.2.2.2 base db y sd.length z _ w (mF d.b self (n+1) a.2.1.1).isSome (λx=>∀A,mF d.b self (n+1) a.2.1.1=some A->x=A) (nb 0 (vl (D+1) l self (n+1) a.2.1.2)) (by omega) h.lt h.own.2.2.2.2 ⟨ab h.box 3,sX h.box 3⟩ U h.apart.1.1 (h.process a.2.1.1 P.2.1 ai V) (h.value a.2.1.2 P.2.2.1 Q V)).mono ?_;rintro e w' ⟨rfl,K,i⟩;refine⟨_,rfl,?_⟩;rw[al]at K i ⊢;cases hp:mF d.b self (n+1) a.2.1.1 with
 | none=>
  have E:=K (by rw[hp];rfl);refine⟨aE E _,by rw[s,hp];rfl,λN p=>?_⟩;rw[s,hp]at p;cases p
 | some A=>
  cases g:qV d.b self (n+1) a.2.1.2 with
  | none=>
   have E:=K (by rw[hp,g];rfl);refine⟨aE E _,by rw[s,hp,g];rfl,λN p=>?_⟩;rw[s,hp,g]at p;cases p
  | some t=>
   obtain⟨x,r,j,c,B,an,au,ap,W,ak,q,m,rfl⟩:=i (by rw[hp,g];rfl);obtain rfl:=an A hp;obtain⟨ao,_,av⟩:=am r t g au;have ag:B.heap[db]?=_:=(q.block db h.lt λf=>h.apart.1.1 f).trans h.box;have I:bi (kI db bg (.slice y sd.length z) pv lv) w (B.setCell ⟨db,3,none⟩ (.slice (some ⟨j,0,none⟩) (sd.length+1) c)):=bi.trans (q.mono λf _ g=>af (af (ae g))) (bt _ _ _ _) λf _ g=>ae g;have v:∀f,f<w.heap.size->¬(Value.slice y sd.length z).ownBlock=some f->j≠f:=λf g aj e=>by
    rcases m with m|m
    ·rw[e]at m;exact aj m
    ·omega
   have O:∀f,kI db bg (.slice (some ⟨j,0,none⟩) (sd.length+1) c) pv lv f->kI db bg (.slice y sd.length z) pv lv f\/w.heap.size<=f:=λf g=>by
    rcases g with g|g|g|g|g
    ·exact ae (ae g)
    ·exact ae (af (ae g))
    ·have:j=f:=aq g;subst this;rcases m with m|m
     ·exact ae (af (af (ae m)))
     ·exact af m
    ·exact ae (af (af (af (ae g))))
    ·exact ae (af (af (af (af g))))
   obtain⟨az,aB,aC,aL⟩:=h.frame I O;refine⟨I,by rw[s,hp,g];rfl,λN p=>?_⟩;rw[s,hp,g]at p;obtain rfl:=aq p;have aI:=I.size;have aJ:=q.size;obtain⟨L,ax,ay,M,aK⟩:=h.own;have u:=bt B db 3 (.slice (some ⟨j,0,none⟩) (sd.length+1) c);have S:∀f,lv.ownBlock=some f->f<w.heap.size:=λf g=>by
    obtain⟨Y,G⟩:=dQ h.lRow f g;exact(aA.1 G).1
   have T:∀f,pv.ownBlock=some f->f<w.heap.size:=λf g=>by
    obtain⟨Y,G⟩:=dQ h.pRow f g;exact(aA.1 G).1
   have F:¬(Value.slice y sd.length z).ownBlock=some bg:=h.apart.2.1.1;have ar:bV (JS base db bg (.slice (some ⟨j,0,none⟩) (sd.length+1) c) pv lv) _ r:=W.mono λf g=>by
    have:=h.lt;refine⟨by omega,λo=>?_⟩;rcases o with o|o|o|o|o
    ·omega
    ·omega
    ·exact g.2 (aq o).symm
    ·have:=T f o;omega
    ·have:=S f o;omega
   refine⟨l,bg,bc,sd++ [(x,r)],sp,_,pv,lv,⟨(nF ag).1 _,⟨L,ax,ay,by omega,by omega⟩,h.bnd,h.tells,λX C i=>⟨?_,az X C i⟩,λaw=>?_,?_,?_,?_,?_,h.pIs,λC i=>?_,aC,⟨⟨?_,h.apart.1.2.1,h.apart.1.2.2⟩,⟨?_,h.apart.2.1.2.1,h.apart.2.1.2.2⟩,λf=>⟨λg=>⟨λe=>?_,λe=>?_⟩,(h.apart.2.2 f).2⟩⟩,⟨by simp;omega,by omega,by show d.links.length<=k+1;omega,Z⟩⟩,O⟩
   ·exact((h.row X C i).1.kee q M F).kee u (by omega) (λe=>L e.symm)
   ·have ad:(B.setCell ⟨db,3,none⟩ (.slice (some ⟨j,0,none⟩) (sd.length+1) c)).heap[bg]?=w.heap[bg]? :=(u.block bg (by omega) (λe=>L e.symm)).trans (q.block bg M F);have R:=h.free aw;unfold World.frozen? at R ⊢;rw[ad];exact R
   ·have:=aW ak u λf g e=>v db h.lt h.apart.1.1 (by
      have:j=f:=aq g
      rw[this,e])
    simpa using this
   ·exact aW (aW h.pRow q λf g J=>((h.apart.2.2 f).1 J).1 g) u λf g e=>h.apart.1.2.1 (by rw[g,e])
   ·exact aW (aW h.lRow q λf g J=>((h.apart.2.2 f).1 J).2 g) u λf g e=>h.apart.1.2.2 (by rw[g,e])
   ·simp[h.sIs,av]
   ·rcases cU.1 i with i|i
    ·exact aB C i
    ·obtain rfl:=dA.1 i;refine⟨ao,?_,ar⟩;refine ap.kee u (W.mono λf g e=>?_);have:=h.lt;omega
   ·exact λe=>v db h.lt h.apart.1.1 (aq e)
   ·exact λe=>v bg M F (aq e)
   ·have H:j=f:=aq g;exact v f (T f e) (λr=>((h.apart.2.2 f).1 r).1 e) H
   ·have H:j=f:=aq g;exact v f (S f e) (λr=>((h.apart.2.2 f).1 r).2 e) H
end
theorem nt(w:World)(g o:Nat)(v0 v1 v2 v3:Value):bi (λb=>b=g) w (cE w g o v0 v1 v2 v3):=
 bi.trans (bi.trans (bi.trans (bt w g o v0) (bt _ g (o+1) v1) λ_ _ a=>a) (bt _ g (o+2) v2) λ_ _ a=>a) (bt _ g (o+3) v3) λ_ _ a=>a
theorem AL{w:World}{g o:Nat}{v0 v1 v2 v3:Value}(j:Nat)(a:j<o\/o+4<=j):(cE w g o v0 v1 v2 v3).cell? ⟨g,j,none⟩=w.cell? ⟨g,j,none⟩:=by
 unfold cE;rw[di j (by omega),di j (by omega),di j (by omega),di j (by omega)]
theorem wk{w:World}{g o:Nat}{f h i j:Value}(v0 v1 v2 v3:Value)(a:w.cell? ⟨g,o,none⟩=some f/\w.cell? ⟨g,o+1,none⟩=some h/\w.cell? ⟨g,o+2,none⟩=some i/\w.cell? ⟨g,o+3,none⟩=some j):(cE w g o v0 v1 v2 v3).cell? ⟨g,o,none⟩=some v0/\(cE w g o v0 v1 v2 v3).cell? ⟨g,o+1,none⟩=some v1/\(cE w g o v0 v1 v2 v3).cell? ⟨g,o+2,none⟩=some v2/\(cE w g o v0 v1 v2 v3).cell? ⟨g,o+3,none⟩=some v3:=by
 obtain⟨b,c,d,e⟩:=a;unfold cE;refine⟨?_,?_,?_,?_⟩
 ·rw[di o (by omega),di o (by omega),di o (by omega)];exact jk _ _ _ b
 ·rw[di (o+1) (by omega),di (o+1) (by omega)];exact jk _ _ _ ((di (o+1) (by omega)).trans c)
 ·rw[di (o+2) (by omega)];exact jk _ _ _ ((di (o+2) (by omega)).trans ((di (o+2) (by omega)).trans d))
 ·exact jk _ _ _ ((di (o+3) (by omega)).trans ((di (o+3) (by omega)).trans ((di (o+3) (by omega)).trans e)))
theorem sj{w:World}{g o:Nat}{v0 v1 v2 v3:Value}(j:Nat):(cE w g o v0 v1 v2 v3).frozen? ⟨g,j,none⟩=w.frozen? ⟨g,j,none⟩:=by
 unfold cE;rw[gi,gi,gi,gi]
theorem EU(w:World)(p:Addr):w.drew.cell? p=w.cell? p:=rfl
theorem zK(w:World)(p:Addr):w.drew.frozen? p=w.frozen? p:=rfl
theorem dy.far{w w':World}{g o:Nat}{n:Nat}{x:Tm n}(b:dy w g o n x)(a:∀j,o<=j->j<o+4->w'.cell? ⟨g,j,none⟩=w.cell? ⟨g,j,none⟩):dy w' g o n x:=by
 cases n with
 | zero=>exact b.elim
 | succ n=>
  obtain⟨c,d,e,f⟩:=b;exact⟨(a _ (by omega) (by omega)).trans c,(a _ (by omega) (by omega)).trans d,(a _ (by omega) (by omega)).trans e,(a _ (by omega) (by omega)).trans f⟩
theorem MD(a:Int)(D:Nat)(h:1<=a/\a<=99):AD (D+1) (bF 3 a D)=true/\cn (D+1) (bF 3 a D)=CO a:=by
 refine⟨?_,rfl⟩;have f:bQ (D+1) (bF 3 a D)=true:=by
  rw[<-aG];intro b c;have:b=((3,a,.empty),(none,0,0)):=by simpa [ar,bF]using c
  subst this;have g:pT a 1 99=true:=by simp[pT];omega
  simp[cm,g]
 have d:bm (D+1) (bF 3 a D)=0:=br.2 ⟨f,by simp[eW,bF],by simp[sz,bF]⟩;have e:aF (D+1) (bF 3 a D)=true:=by simp[aF,bF]
 simp only[AD,d,ay,gU];refine⟨rfl,af ?_⟩;rw[<-eT];exact e
theorem Kf{D:Nat}{l:List (Tm D)}(a:fO D l=true)(i:Nat){y:Tm D}(c:AD D y=true):fO D (l.set i y)=true:=by
 simp only[fO,List.length_set,ay,bT,bX]at a ⊢;refine⟨a.1,λd b=>?_⟩;rcases rR b with b|rfl
 ·exact a.2 d b
 ·exact c
section
variable {base db:Nat} {self:Int} {n D k:Nat} {nx:Int} {d:Dg} {w:World} {l:List (Tm (D+1))} {bg bc:Nat} {sd:List (Int×Tm (D+1+n+1))} {sp:List (Int×ByteArray×Tm (D+1+n+1))} {sv pv lv:Value}
theorem dR.spawn(h:dR base db self n D k nx d w l bg bc sd sp sv pv lv)(a:Ac (n+1))(aM:gZ (n+1) base w a)(ai:bm (n+1) a.2.1.2=0)(aL:a.1=2)(aX:dC a.2.2.1=true)(bw:0<=a.2.2.2/\a.2.2.2<4)(aZ:1<=self/\self<=99)(bp:k<=7):ah 162 #[.pointer (some ⟨db,0,none⟩),M0 a] w λe w'=>∃t,e=.returned (.bool t)/\Hid (xg base db self n D k nx d a (kI db bg sv pv lv) w t w'):=by
 have ap:=h.pRow;obtain⟨M,N,rfl⟩:=lQ ap;obtain⟨bj,bk,bl,bn,aJ,aK⟩:=h.few;obtain⟨m,Y⟩:∃m:Nat,a.2.2.2=(m:Int):=⟨a.2.2.2.toNat,by omega⟩;have a2:m<4:=by omega
 have bo:=(gK h.bnd).1;obtain⟨p,aw⟩:∃p,l[m]?=some p:=⟨l[m]'(by omega),aD _⟩;obtain⟨y1,y2,bC⟩:=h.row m p aw;have aP:d.b[m]?=some (cn (D+1) p):=by rw[<-h.tells,dj,aw];rfl
 have F:qp self a d=(qV d.b self (n+1) a.2.1.2).bind λt=>if p.1.1=6 then some {d with b:=d.b.set m (CO d.next),next:=d.next+1,spawns:=d.spawns++ [(d.next,a.2.2.1,t)]}else none:=by
  have aT:bK ⟨13,(d.b[a.2.2.2.toNat]?).getD (CO 0)⟩=p.1.1:=by
   rw[Y,Int.toNat_natCast,aP];rfl
  have aU:¬a.1=1:=by omega
  unfold qp;rw[if_neg aU,if_pos aL,aT,Y,Int.toNat_natCast]
 obtain⟨a0,a1⟩:=h.told (self:=self) a.2.1.2 ai
 have q:=C6 (D+1+n) a.1 a.2.1.1.1.1 a.2.1.1.1.2.1 a.2.1.1.1.2.2 a.2.1.1.2.1.1 a.2.1.1.2.2.length a.2.1.1.2.1.2 a.2.1.2.1.1 a.2.1.2.1.2.1 a.2.1.2.1.2.2 a.2.1.2.2.1.1 a.2.1.2.2.2.length a.2.1.2.2.1.2 a.2.2.1 m base db M sp.length N _ w (nb 0 (vl (D+1) l self (n+1) a.2.1.2)) bg bc d.next p.1.1 p.1.2.1 p.1.2.2 p.2.1.1 p.2.2.length p.2.1.2 a2 (by omega) h.lt h.own.2.2.2.1 h.own.1 h.own.2.2.2.2 (by omega) (by omega) (by
   simp only[dC,pT,ay,bT]at aX
   omega)
  ⟨ab h.box 4,ab h.box 0,ab h.box 2,λj=>sX h.box j,h.free⟩ ap ⟨h.apart.1.2.1,h.apart.2.1.2.1⟩ y1 (λaC=>iQ _ _ _ _ _ _ aC) (h.value a.2.1.2 aM.2.2.1 ai aZ)
 rw[<-Y]at q;refine q.mono ?_;rintro e w' ⟨rfl,X,ax⟩;refine⟨_,rfl,?_⟩;rw[a0]at X ax ⊢;cases f:qV d.b self (n+1) a.2.1.2 with
 | none=>
  have T:=X (by rw[f];rfl);refine⟨aE T _,by rw[F,f];rfl,λS r=>?_⟩;rw[F,f]at r;cases r
 | some t=>
  by_cases E:p.1.1=6;rotate_left
  ·have T:=X (by rw[f];simp[E]);refine⟨aE T _,by rw[F,f];simp[E],λS r=>?_⟩;rw[F,f]at r;simp[E]at r
  ·obtain⟨y,g,c,az,x,C,a8,a6,Q,aY,A,s,av,Z,au⟩:=ax (by rw[f];simp[E]);obtain⟨a3,_,a9⟩:=a1 y t f a8;have aN:az.heap[db]?=_:=(A.block db h.lt λi=>h.apart.1.2.1 i).trans h.box;obtain⟨G,ba,bb,R,bA⟩:=h.own;have bv:=A.size;have U:=(nF aN).2.1 (.slice (some ⟨g,0,none⟩) (sp.length+1) c);rw[<-av]at U;have u:bi (λb=>b=db) az x:=by rw[av];exact bt _ _ _ _
   have B:bi (λb=>b=bg) x C:=by
    rw[Z];exact bi.trans (nt x bg (m*4) _ _ _ _) (aE ((ak _ _).drew) _) λ_ _ e=>e
   have aO:C.heap[db]?=_:=(B.block db (aA.1 U).1 G).trans U;have v:bi (λb=>b=db) C w':=by rw[au];exact bt _ _ _ _
   have ag:=(nF aO).2.2.2.1 (.int .i64 (d.next+1));rw[<-au]at ag;have br:=u.size;have bs:=B.size;have bu:=v.size;have am:bi (kI db bg sv (.slice M sp.length N) lv) w w':=bi.trans (bi.trans (bi.trans (A.mono λi _ f=>af (af (af (ae f)))) u λi _ f=>ae f) B λi _ f=>af (ae f)) v λi _ f=>ae f;have z:∀i,i<w.heap.size->¬(Value.slice M sp.length N).ownBlock=some i->g≠i:=λi f aV e=>by
    rcases s with s|s
    ·rw[e]at s;exact aV s
    ·omega
   have ad:∀i,kI db bg sv (.slice (some ⟨g,0,none⟩) (sp.length+1) c) lv i->kI db bg sv (.slice M sp.length N) lv i\/w.heap.size<=i:=λi f=>by
    rcases f with f|f|f|f|f
    ·exact ae (ae f)
    ·exact ae (af (ae f))
    ·exact ae (af (af (ae f)))
    ·have:g=i:=aq f;subst this;rcases s with s|s
     ·exact ae (af (af (af (ae s))))
     ·exact af s
    ·exact ae (af (af (af (af f))))
   obtain⟨bd,be,bf,bB⟩:=h.frame am ad;refine⟨am,by rw[F,f];simp[E],λS r=>?_⟩;rw[F,f]at r;have r:some {d with b:=d.b.set m (CO d.next),next:=d.next+1,spawns:=d.spawns++ [(d.next,a.2.2.1,t)]}=some S:=by simpa [E]using r
   obtain rfl:=aq r;have an:∀i,lv.ownBlock=some i->i<w.heap.size:=λi f=>by
    obtain⟨aF,V⟩:=dQ h.lRow i f;exact(aA.1 V).1
   have ar:∀i,sv.ownBlock=some i->i<w.heap.size:=λi f=>by
    obtain⟨aF,V⟩:=dQ h.sRow i f;exact(aA.1 V).1
   have O:¬(Value.slice M sp.length N).ownBlock=some bg:=h.apart.2.1.2.1;have a7:bV (JS base db bg sv (.slice (some ⟨g,0,none⟩) (sp.length+1) c) lv) _ y:=Q.mono λi f=>by
    have:=h.lt;refine⟨by omega,λq=>?_⟩;rcases q with q|q|q|q|q
    ·omega
    ·omega
    ·have:=ar i q;omega
    ·exact f.2 (aq q).symm
    ·have:=an i q;omega
   have ao:=MD d.next D (by omega)
   -- the row of what is bound
   have H:∀j,x.cell? ⟨bg,j,none⟩=w.cell? ⟨bg,j,none⟩:=λj=>(u.cell j (by omega) (λe=>G e.symm)).trans (A.cell j R O);have J:∀j,w'.cell? ⟨bg,j,none⟩=C.cell? ⟨bg,j,none⟩:=λj=>v.cell j (by omega) (λe=>G e.symm);have I:∀j,C.cell? ⟨bg,j,none⟩=(cE x bg (m*4) (.int .i64 3) (.int .i64 d.next) (.string ⟨#[]⟩) (.slice none 0 0)).cell? ⟨bg,j,none⟩:=λj=>by
    rw[Z,EU]
   have aQ:∀j,j<m*4\/m*4+4<=j->w'.cell? ⟨bg,j,none⟩=w.cell? ⟨bg,j,none⟩:=λj aS=>by
    rw[J,I,AL j aS];exact H j
   have P:=wk (w:=x) (g:=bg) (o:=m*4) (.int .i64 3) (.int .i64 d.next) (.string ⟨#[]⟩) (.slice none 0 0) ⟨(H _).trans y1.1,(H _).trans y1.2.1,(H _).trans y1.2.2.1,(H _).trans y1.2.2.2⟩;refine⟨l.set m (bF 3 d.next D),bg,bc,sd,sp++ [(d.next,a.2.2.1,y)],sv,_,lv,⟨ag,⟨G,ba,bb,by omega,by omega⟩,Kf h.bnd m ao.1,?_,λaa aB L=>?_,λj=>?_,?_,?_,?_,h.sIs,?_,be,λbh K=>?_,⟨⟨h.apart.1.1,?_,h.apart.1.2.2⟩,⟨h.apart.2.1.1,?_,h.apart.2.1.2.2⟩,λi=>⟨λf=>⟨λe=>?_,((h.apart.2.2 i).1 f).2⟩,λf e=>?_⟩⟩,⟨by omega,by simp;omega,by show d.links.length<=k+1;omega,by show d.next+1=nx+((sp++ [(d.next,a.2.2.1,y)]).length:Nat);simp;omega,aJ,aK⟩⟩,ad⟩
   ·rw[List.map_set,h.tells,ao.2]
   ·by_cases aj:m=aa
    ·subst aj;rw[List.getElem?_set_self (by omega)]at L;obtain rfl:=aq L;have al:=kB D 3 d.next (by unfold dh;omega) (by unfold dh;omega) w'.heap.size w' (JS base db bg sv (.slice (some ⟨g,0,none⟩) (sp.length+1) c) lv);refine⟨⟨?_,?_,?_,?_⟩,al.1,al.2⟩
     ·rw[J,I];exact P.1
     ·rw[J,I];exact P.2.1
     ·rw[J,I];exact P.2.2.1
     ·rw[J,I];exact P.2.2.2
    ·rw[List.getElem?_set_ne aj]at L;exact⟨(h.row aa aB L).1.far λj bx bz=>aQ j (by omega),bd aa aB L⟩
   ·have aI:w'.frozen? ⟨bg,j,none⟩=C.frozen? ⟨bg,j,none⟩:=by
      unfold World.frozen?;rw[v.block bg (by omega) (λe=>G e.symm)]
    have aH:C.frozen? ⟨bg,j,none⟩=x.frozen? ⟨bg,j,none⟩:=by
     rw[Z,zK,sj]
    have aG:x.frozen? ⟨bg,j,none⟩=w.frozen? ⟨bg,j,none⟩:=by
     unfold World.frozen?;rw[u.block bg (by omega) (λe=>G e.symm),A.block bg R O]
    rw[aI,aH,aG];exact h.free j
   ·refine aW (aW (aW (aW h.sRow A λi f W=>((h.apart.2.2 i).1 f).1 W) u λi f e=>h.apart.1.1 (by rw[f,e])) B λi f e=>h.apart.2.1.1 (by rw[f,e])) v λi f e=>h.apart.1.1 (by rw[f,e])
   ·have:=aW (aW (aW aY u λi f e=>z db h.lt h.apart.1.2.1 (by
      have:g=i:=aq f
      rw[this,e])) B λi f e=>z bg R O (by
      have:g=i:=aq f
      rw[this,e])) v λi f e=>z db h.lt h.apart.1.2.1 (by
      have:g=i:=aq f
      rw[this,e])
    simpa using this
   ·refine aW (aW (aW (aW h.lRow A λi f W=>(h.apart.2.2 i).2 W f) u λi f e=>h.apart.1.2.2 (by rw[f,e])) B λi f e=>h.apart.2.1.2.2 (by rw[f,e])) v λi f e=>h.apart.1.2.2 (by rw[f,e])
   ·simp[h.pIs,a9]
   ·rcases cU.1 K with K|K
    ·exact bf bh K
    ·obtain rfl:=dA.1 K;have bq:=h.lt;have a4:=a6.kee u (Q.mono λi f e=>by omega);have a5:=a4.kee B (Q.mono λi f e=>by omega);exact⟨a3,a5.kee v (Q.mono λi f e=>by omega),a7⟩
   ·exact λe=>z db h.lt h.apart.1.2.1 (aq e)
   ·exact λe=>z bg R O (aq e)
   ·exact z i (ar i f) (λy=>((h.apart.2.2 i).1 f).1 y) (aq e)
   ·have aR:g=i:=aq f;exact z i (an i e) (λy=>(h.apart.2.2 i).2 y e) aR
end
def LS{n:Nat}(a:Ac (n+1)):Prop:=mW (n+1) a=true/\(a.1=1\/a.1=3->bm (n+1) a.2.1.1=0)/\(a.1=1\/a.1=2->bm (n+1) a.2.1.2=0)
theorem pr(self:Int){n:Nat}:(p q:List (Ac (n+1)))->(d:Dg)->pq self (p++q) d=(pq self p d).bind (pq self q)
 | [],_,_=>rfl
 | a::p,q,d=>by
  simp only[fz,pq];cases qp self a d with
  | none=>rfl
  | some b=>exact pr self p q b
theorem Hs(self:Int){n:Nat}{l:List (Ac (n+1))}{i:Nat}{a:Ac (n+1)}(b:l[i]?=some a)(d:Dg):pq self (l.take (i+1)) d=(pq self (l.take i) d).bind (qp self a):=by
 rw[dt,b,pr];congr 1;funext x;show pq self [a] x=qp self a x;simp only[pq];cases qp self a x<;>rfl
theorem Hq(self:Int){n:Nat}{l:List (Ac (n+1))}{i:Nat}{d:Dg}(a:pq self (l.take i) d=none):pq self l d=none:=by
 rw[<-jf i l,pr,a];rfl
section
variable {base db:Nat} {self:Int} {n D k:Nat} {nx:Int} {d:Dg} {w:World} {l:List (Tm (D+1))} {bg bc:Nat} {sd:List (Int×Tm (D+1+n+1))} {sp:List (Int×ByteArray×Tm (D+1+n+1))} {sv pv lv:Value}
theorem xg.from{a:Ac (n+1)}{S:Nat->Prop}{W w':World}{t:Bool}(b:xg base db self n D k nx d a S W t w')(c:ag w W):xg base db self n D k nx d a S w t w':=⟨(aE c S).trans b.1 λ_ _ e=>e,b.2.1,λh l=>by
 obtain⟨o,g,f,s,u,v,r,p,i,j⟩:=b.2.2 h l;refine⟨o,g,f,s,u,v,r,p,i,λq m=>?_⟩;rcases j q m with e|e
 ·exact ae e
 ·have:=c.size
  exact af (by omega)⟩
theorem gZ.later{B:Nat}{a:Ac (n+1)}{W:World}(b:gZ (n+1) B w a)(c:Below B w W):gZ (n+1) B W a:=⟨b.1,b.2.1.below c,b.2.2.1.below c,b.2.2.2⟩
theorem dR.stop(a:dR base db self n D k nx d w l bg bc sd sp sv pv lv):Do base db self n D (k+1) nx {d with stops:=true} (kI db bg sv pv lv) w (w.setCell ⟨db,6,none⟩ (.bool true))/\bi (kI db bg sv pv lv) w (w.setCell ⟨db,6,none⟩ (.bool true)):=by
 have e:=bt w db 6 (.bool true);obtain⟨t,u,v,C⟩:=a.frame (w':=w.setCell ⟨db,6,none⟩ (.bool true)) (e.mono λf _ b=>ae b) λf c=>ae c;obtain⟨g,r,s,m,B⟩:=a.own;have A:=e.size;obtain⟨x,y,z,p⟩:=a.few;refine⟨⟨l,bg,bc,sd,sp,sv,pv,lv,⟨(nF a.box).2.2.2.2 _,⟨g,r,s,by omega,by omega⟩,a.bnd,a.tells,λj o i=>⟨(a.row j o i).1.kee e m (λb=>g b.symm),t j o i⟩,λq=>?_,aW a.sRow e λf c b=>a.apart.1.1 (by rw[c,b]),aW a.pRow e λf c b=>a.apart.1.2.1 (by rw[c,b]),aW a.lRow e λf c b=>a.apart.1.2.2 (by rw[c,b]),a.sIs,a.pIs,u,v,a.apart,⟨by omega,by omega,by show d.links.length<=k+1;omega,p⟩⟩,λf c=>ae c⟩,e.mono λf _ b=>ae b⟩;have h:=a.free q;unfold World.frozen? at h ⊢;rw[e.block bg m (λb=>g b.symm)];exact h
theorem dR.one(c:dR base db self n D k nx d w l bg bc sd sp sv pv lv)(a:Ac (n+1))(m:gZ (n+1) base w a)(A:LS a)(p:1<=self/\self<=99)(y:k<=7):ah 138 #[.pointer (some ⟨db,0,none⟩),M0 a] w λe w'=>∃t,e=.returned (.bool t)/\Hid (xg base db self n D k nx d a (kI db bg sv pv lv) w t w'):=by
 obtain⟨f,r,s⟩:=A;have o:=c.own.2.2.2.2;refine IN a.1 a.2.1.1.1.1 a.2.1.1.1.2.1 a.2.1.1.1.2.2 a.2.1.1.2.1.1 a.2.1.1.2.2.length a.2.1.1.2.1.2 a.2.1.2.1.1 a.2.1.2.1.2.1 a.2.1.2.1.2.2 a.2.1.2.2.1.1 a.2.1.2.2.2.length a.2.1.2.2.1.2 a.2.2.1 a.2.2.2 db w (xg base db self n D k nx d a (kI db bg sv pv lv) w) c.lt ⟨d.stops,ab c.box 6,sX c.box 6⟩ ?_ ?_ ?_ ?_
 ·intro i h b;refine((c.later b).send a (m.later (b.mono o)) (r (ae i)) (s (ae i)) i p (by omega)).mono ?_;rintro e w' ⟨t,rfl,g⟩;exact⟨t,rfl,g.out.from b⟩
 ·intro j h b;have x:dC a.2.2.1=true/\0<=a.2.2.2/\a.2.2.2<4:=by
   have z:¬a.1=1:=by omega
   unfold mW at f;rw[if_neg z,if_pos j]at f;simp only[ay,bT]at f;exact⟨f.1.1.2,f.1.2,f.2⟩
  refine((c.later b).spawn a (m.later (b.mono o)) (s (af j)) j x.1 x.2 p y).mono ?_;rintro e w' ⟨t,rfl,g⟩;exact⟨t,rfl,g.out.from b⟩
 ·intro q h b;refine((c.later b).link a (m.later (b.mono o)) (r (af q)) q p (by omega)).mono ?_;rintro e w' ⟨t,rfl,g⟩;exact⟨t,rfl,g.out.from b⟩
 ·intro B C E h b;have u:qp self a d=some {d with stops:=true}:=by
   unfold qp;rw[if_neg B,if_neg C,if_neg E]
  obtain⟨F,G⟩:=(c.later b).stop;refine xg.from ⟨G,by rw[u];rfl,λH v=>?_⟩ b;rw[u]at v;obtain rfl:=aq v;exact F
theorem dR.all(H:dR base db self n D 0 nx d w l bg bc sd sp sv pv lv)(ac:List (Ac (n+1)))(L:Option Addr)(U:Nat)(O:pe base w 11 (fM (n+1)) (gZ (n+1) base w) L ac)(ad:∀a∈ac,LS a)(X:ac.length<=8)(ag:1<=self/\self<=99):ah 102 #[.pointer (some ⟨db,0,none⟩),.slice L ac.length U] w λe w'=>∃t,e=.returned (.bool t)/\Hid (bi (kI db bg sv pv lv) w w'/\t=(pq self ac d).isSome/\∀g,pq self ac d=some g->Do base db self n D 8 nx g (kI db bg sv pv lv) w w'):=by
 have ab:=H.own.2.2.2.2;have R:∀{c:World},bi (kI db bg sv pv lv) w c->Below base w c:=λj=>j.below ab λb Y k=>by
  have:=H.high b k;omega
 refine(GZ ac L ac.length U db w (λi c=>bi (kI db bg sv pv lv) w c/\∃g,pq self (ac.take i) d=some g/\Do base db self n D i nx g (kI db bg sv pv lv) w c) (λc=>bi (kI db bg sv pv lv) w c/\pq self ac d=none) (by omega) rfl ?_ ?_ ?_ ?_).mono ?_
 ·rintro i a c h ⟨j,_⟩;rcases O with e|⟨b,o,e,S,J⟩
  ·rw[e]at h;simp at h
  ·exact⟨b,o,e,λT aw aa=>((R j).cell (p:=⟨b,o+i*11+T,none⟩) S).trans ((J i a h).1 T aw aa)⟩
 ·rintro i c ax ⟨j,g,I,z,x,v,C,E,F,B,A,q,m⟩ N;exact⟨j.trans (aE N (λ_=>False)) λ_ _ e=>e.elim,g,I,z,x,v,C,E,F,B,A,q.later N,m⟩
 ·rintro i a c h ⟨j,g,I,z,x,v,C,E,F,B,A,q,m⟩;have ay:=(aL.1 h).1;have Z:gZ (n+1) base c a:=by
   rcases O with e|⟨b,o,e,S,J⟩
   ·rw[e]at h;simp at h
   ·exact((J i a h).2).later (R j)
  refine(q.one a Z (ad a (aC h)) ag (by omega)).mono ?_;rintro e w' ⟨t,rfl,u⟩;obtain⟨s,f,M⟩:=u.out;have y:=Hs self h d;rw[I]at y;simp only[dl]at y;have Q:bi (kI db bg sv pv lv) w w':=j.trans s λb Y k=>by
   rcases m b k with e|e
   ·exact e
   ·omega
  refine⟨t,rfl,λak=>⟨Q,?_⟩,λaj=>⟨Q,?_⟩⟩
  ·rw[ak]at f;obtain⟨G,r⟩:=fY.1 f.symm;obtain⟨an,W,V,ar,au,av,ap,ao,al,am⟩:=M G r;refine⟨G,by rw[y,r],an,W,V,ar,au,av,ap,ao,al,λk K=>?_⟩;rcases am k K with e|e
   ·exact m k e
   ·have:=j.size;exact af (by omega)
  ·rw[aj]at f;refine Hq self (i:=i+1) ?_;rw[y];exact j0.1 (by rw[<-j8,<-f];rfl)
 ·exact⟨bi.refl _ _,d,rfl,l,bg,bc,sd,sp,sv,pv,lv,H,λk K=>ae K⟩
 ·rintro e w' ⟨t,rfl,u⟩;refine⟨t,rfl,?_⟩;cases t
  ·obtain⟨s,f⟩:=u.out.2 rfl;refine⟨s,by rw[f];rfl,λg P=>?_⟩;rw[f]at P;cases P
  ·obtain⟨s,g,f,M⟩:=u.out.1 rfl;rw[bw (ai _)]at f;refine⟨s,by rw[f];rfl,λG r=>?_⟩;rw[f]at r;obtain rfl:=aq r;obtain⟨z,x,v,C,E,F,B,A,q,m⟩:=M;exact⟨z,x,v,C,E,F,B,A,q.more X,m⟩
end
theorem Eb(N:Nat):bm (N+1) (bF 1 0 N)=0/\aF (N+1) (bF 1 0 N)=true/\sz (N+1) (bF 1 0 N)=0:=by
 have c:bQ (N+1) (bF 1 0 N)=true:=by
  rw[<-aG];intro a b;have:a=((1,0,.empty),(none,0,0)):=by simpa [ar,bF]using b
  subst this;simp[cm,pT]
 exact⟨br.2 ⟨c,by simp[eW,bF],by simp[sz,bF]⟩,by simp[aF,bF],by simp[sz,bF]⟩
theorem Az{ws:List Wd}{nm:List ByteArray}{N:Nat}:dv ws nm (N+1) (bF 1 0 N) (1,0):=⟨λa=>by simp[bF]at a,λa=>by simp[bF]at a,λ_ _=>rfl⟩
theorem jz.numb{N:Nat}{ws:List Wd}{nm:List ByteArray}{room:Int}{r:Wd}{h:List Wd}{s:Tm (N+1)}{g:List (Tm (N+1))}(i:jz (N+1) ws nm room (r::h) (s::g)):jz (N+1) ws nm room ((1,0)::h) (bF 1 0 N::g):=by
 obtain⟨e,f,j,k,l,m,n,o⟩:=i;obtain⟨p,q,u⟩:=Eb N;refine⟨⟨by simpa using e.1,λc t d b a=>?_⟩,?_,λd a=>?_,?_,l,m,n,o⟩
 ·cases c with
  | zero=>
   simp only[cG,j9]at b a;subst b a;exact Az
  | succ c=>exact e.2 (c+1) t d (by simpa using b) (by simpa using a)
 ·simp only[bv]at f ⊢;rw[lM (by decide),l9];exact(eQ.1 f).2.1
 ·rcases cv.1 a with rfl|a
  ·exact⟨p,q⟩
  ·exact j d (bI _ a)
 ·simp only[aH,bq]at k ⊢;have:=(ey (N+1) s).1;omega
theorem jz.turned{N:Nat}{ws:List Wd}{nm:List ByteArray}{room:Int}{C v:Wd}{vs:List Wd}{s x:Tm (N+1)}{ms:List (Tm (N+1))}(n:jz (N+1) ws nm room (C::vs++ [v]) (s::ms++ [x]))(f:vs.length=ms.length):jz (N+1) ws nm room (v::vs) (x::ms):=by
 obtain⟨g,h,u,w,y,z,A,B⟩:=n;refine⟨⟨by simp[f],λd D e c a=>?_⟩,?_,λe a=>u e ?_,?_,y,z,A,B⟩
 ·cases d with
  | zero=>
   simp only[cG,j9]at c a;subst c a;exact g.2 (vs.length+1) v x (by simp) (by simp[f])
  | succ d=>
   simp only[cT]at c a;have o:=(aL.1 c).1;have p:=(aL.1 a).1;exact g.2 (d+1) D e (by rw[fz,cT,de o];exact c) (by rw[fz,cT,de p];exact a)
 ·simp only[fz,bv,jW,List.flatMap_nil,dY]at h ⊢;obtain⟨_,t,_⟩:=eQ.1 h;obtain⟨j,k,l⟩:=eQ.1 t;exact eQ.2 ⟨k,j,λi q b r m=>l b r i q m.symm⟩
 ·rcases cv.1 a with rfl|a
  ·simp
  ·simp[a]
 ·simp only[fz,aH,gV,bq,List.sum_append,bS,je]at w ⊢;have:=(ey (N+1) s).1;omega
theorem qJ(w:World)(c:Nat)(a b:Int):bL (λq=>q=c) w (tf w c a b):=(aZ w c 5 (.int .i64 a)).trans (aZ _ c 6 (.int .i64 b)) λ_ _ e=>e
theorem Jh(w:World)(c:Nat)(a b:Int):(tf w c a b).heap.size=w.heap.size:=by simp[tf,World.setCell]
theorem gN{S:Nat->Prop}{w w':World}(a:bL S w w'):bi S w w':=⟨a.os,a.tape,a.output,a.size,a.block⟩
theorem iR{S:Nat->Prop}{w w':World}(a:bi S w w'):bL S w w':=⟨a.os,a.tape,a.output,a.size,a.block⟩
section
variable {base pb:Nat} {name:ByteArray} {room:Int} {N:Nat} {s:Tm (N+1)} {ms:List (Tm (N+1))} {xs:List (Wd×Tm (N+1))} {nk:Nat} {M:Nat->Prop} {w:World} {ws:List Wd} {nm:List ByteArray} {sv:Wd} {vs:List Wd} {ma:Option Addr} {mc:Nat} {Mh:Nat->Prop}
theorem jl.keptBox{v:Wd}(h:jl Mh ma vs mc w)(i:Mh pb):jl Mh ma vs mc (tf w pb v.1 v.2):=by
 rcases h with a|⟨d,j,e,f,b,c,g⟩
 ·exact ae a
 ·exact af ⟨d,j,e,f,b,((qJ w pb v.1 v.2).block d (aA.1 c).1 λa=>b (by rw[a];exact i)).trans c,g⟩
theorem du.word{mv:Value}{v:Wd}(a:du base (PL pb name sv mv) room ws nm M w):du base (PL pb name v mv) room ws nm M (tf w pb v.1 v.2):=a.turn (qJ w pb v.1 v.2) λtv lv mp b=>by
 unfold tf World.setCell;simp[bC,b]
theorem cr.numb(a:cr base pb name room (N+1) s ms [] nk M w ws nm sv vs ma mc Mh):cr base pb name room (N+1) (bF 1 0 N) ms [] nk M (tf w pb 1 0) ws nm (1,0) vs ma mc Mh/\bL M w (tf w pb 1 0):=by
 obtain⟨d,f⟩:=a.box0;have c:=a.has;simp only[bS,dY]at c;refine⟨⟨a.heap.word (v:=(1,0)),a.mail.keptBox (v:=(1,0)) d,?_,a.len,a.names,a.inM,a.mailM⟩,(qJ w pb 1 0).mono λb e=>?_⟩
 ·simp only[bS,dY];exact c.numb
 ·rw[e];exact a.inM pb d
theorem cr.turned{v:Wd}{x:Tm (N+1)}(a:cr base pb name room (N+1) s ms [(v,x)] nk M w ws nm sv vs ma mc Mh):cr base pb name room (N+1) x ms [] nk M (tf w pb v.1 v.2) ws nm v vs ma mc Mh/\bL M w (tf w pb v.1 v.2):=by
 obtain⟨d,f⟩:=a.box0;have c:=a.has;simp only[aH,bS]at c;refine⟨⟨a.heap.word,a.mail.keptBox d,?_,a.len,a.names,a.inM,a.mailM⟩,(qJ w pb v.1 v.2).mono λb e=>?_⟩
 ·simp only[bS,dY];exact c.turned a.len
 ·rw[e];exact a.inM pb d
theorem cr.cells56(e:cr base pb name room (N+1) s ms xs nk M w ws nm sv vs ma mc Mh):(∃a,w.cell? ⟨pb,5,none⟩=some (.int .i64 a))/\(∃a,w.cell? ⟨pb,6,none⟩=some (.int .i64 a))/\∀j,w.frozen? ⟨pb,j,none⟩=false:=by
 obtain⟨i,g,h,f,_⟩:=e.heap.box;obtain⟨_,b,c,_,d,_⟩:=PL.cells f;exact⟨⟨_,b⟩,⟨_,c⟩,d⟩
def M3(base pb:Nat)(name:ByteArray)(room:Int)(N:Nat)(s:Tm (N+1))(ms:List (Tm (N+1)))(x:Tm (N+1))(nk:Nat)(M:Nat->Prop)(w:World)(t:Bool)(w':World):Prop:=
 t=decide ((ms.map (sz (N+1))).sum+sz (N+1) x<=room)/\bL M w w'/\∃a i f g h d e c,cr base pb name room (N+1) a ms [] (nk+402) (λb=>M b\/w.heap.size<=b) w' i f g h d e c/\(t=true->a=x)/\(t=false->au (N+1) a (N+1) s=true)
theorem wm{x:Tm (N+1)}{ms:List (Tm (N+1))}(a:bm (N+1) x=0)(b:aF (N+1) x=true):rE (N+1) x room (bF 1 0 N::ms)=if (ms.map (sz (N+1))).sum+sz (N+1) x<=room then 0 else 6:=by
 unfold rE;rw[if_neg (by simp[a]),if_neg (by simp[b])];simp only[aH,bq,(Eb N).2.2,Int.zero_add]
theorem cr.become(k:cr base pb name room (N+1) s ms [] nk M w ws nm sv vs ma mc Mh)(x:Tm (N+1))(aB:In w.heap.size w (N+1) x)(L:bV (λb=>¬M b) (N+1) x)(E:bm (N+1) x=0)(ai:aF (N+1) x=true)(m:∀b,M b->b<w.heap.size)(a3:nk<=48000)(B:ms.length<=999)(a2:base<=w.heap.size):ah 104 #[.pointer (some ⟨pb,0,none⟩),.agg #[.int .i64 x.1.1,.int .i64 x.1.2.1,.string x.1.2.2,.slice x.2.1.1 x.2.2.length x.2.1.2]] w λe w'=>∃t,e=.returned (.bool t)/\Hid (M3 base pb name room N s ms x nk M w t w'):=by
 obtain⟨ao,ap⟩:=k.box0;have a1:M pb:=k.inM pb ao;have u:=k.front;have P:=u.2.2.1 s (by simp);have ay:(ms.map (sz (N+1))).sum+sz (N+1) s<=room:=by
  have ag:=u.2.2.2.1;have a0:=u.2.2.2.2.1;simp only[aH,bq]at ag;omega
 refine zj x.1.1 x.1.2.1 x.1.2.2 x.2.1.1 x.2.2.length x.2.1.2 pb w (λT U V sa sl sc f=>∃y0:Tm (N+1),(T=y0.1.1/\U=y0.1.2.1/\V=y0.1.2.2/\sa=y0.2.1.1/\sl=y0.2.2.length/\sc=y0.2.1.2)/\In f.heap.size f (N+1) y0/\bV (λa=>w.heap.size<=a) (N+1) y0/\au (N+1) y0 (N+1) s=true) (λ_ _ _ _=>True) (M3 base pb name room N s ms x nk M w) ?_ ?_ ?_
 ·intro f d;refine((k.later d).state (by omega)).mono ?_;rintro e w' ⟨aX,rfl,o⟩;exact⟨_,_,_,_,_,_,rfl,o.out.1,aX,⟨rfl,rfl,rfl,rfl,rfl,rfl⟩,o.out.2.1,o.out.2.2.1.mono λa O=>by have:=d.size;omega,o.out.2.2.2⟩
 ·intro f d;obtain⟨ad,b,c⟩:=(k.later d).cells56;exact⟨ad,b,c,ap⟩
 ·rintro T U V sa sl sc aZ j aP aQ ⟨y0,⟨rfl,rfl,rfl,rfl,rfl,rfl⟩,Q,R,q⟩ D r a4 a5 p;have a7:=r.size;obtain⟨al,I⟩:=(k.later r).numb;have a9:=Jh j pb 1 0;have H:bL M w (tf j pb 1 0):=(aT r M).trans I λ_ _ e=>e;have aC:In (tf j pb 1 0).heap.size (tf j pb 1 0) (N+1) x:=aB.kee (gN H) L;have aq:=al.put x aC L (eH E) (λb h=>by have:=m b h;omega) (by omega) B (by omega);refine aq.mono ?_;rintro e w' ⟨W,rfl,Y⟩;obtain⟨aV,aN,bb,aS,aJ,aL,aa,i,n⟩:=Y.out;have F:=wm (room:=room) (ms:=ms) E ai;have K:bL M w w':=H.trans n λ_ _ e=>e;have a8:=n.size;refine⟨W,_,rfl,⟨?_,?_,i.cells56.1,i.cells56.2.1,i.cells56.2.2⟩,trivial,?_,?_⟩
  ·exact(n.block aP (aA.1 p.1).1 λa=>by have:=m _ a;omega).trans p.1
  ·exact(n.block aQ (aA.1 p.2.1).1 λa=>by have:=m _ a;omega).trans p.2.1
  ·intro g f d;rw[if_pos g]at i;obtain⟨z,v⟩:=(i.later d).turned;rw[F]at g;have aj:(ms.map (sz (N+1))).sum+sz (N+1) x<=room:=by
    by_cases a:(ms.map (sz (N+1))).sum+sz (N+1) x<=room
    ·exact a
    ·rw[if_neg a]at g;cases g
   refine⟨by simp[aj],(K.trans (aT d M) λ_ _ e=>e).trans v λb h a=>?_,x,aV,aN,W,aS,aJ,aL,aa,z.mono (λb a=>?_) (by omega),λ_=>rfl,λa=>by cases a⟩
   ·rcases a with a|a
    ·exact a
    ·omega
   ·rcases a with a|a
    ·exact ae a
    ·exact af (by omega)
  ·intro g f aR d a6 ar;rw[if_neg g]at i;have ak:¬(ms.map (sz (N+1))).sum+sz (N+1) x<=room:=λa=>g (by rw[F,if_pos a]);have an:=(i.inside.later d);have ax:=d.size;have aI:=In.offB R Q;have aw:=D.size;have A:bm (N+1) y0=0/\aF (N+1) y0=true:=⟨(bH q).trans P.1,(co _ _ _ _ q).trans P.2⟩;have aD:In j.heap.size j (N+1) y0:=(Q.below D).mono aw;have S:bV (λb=>¬M b) (N+1) y0:=R.mono λa O l=>by have:=m a l;omega
   have aE:In w'.heap.size w' (N+1) y0:=(aD.kee (gN I) S).kee (gN n) S;have aG:In f.heap.size f (N+1) y0:=(aE.below d).mono ax;have G:=wm (room:=room) (ms:=ms) A.1 A.2;have az:=kS _ _ _ _ q;rw[if_pos (by rw[az];exact ay)]at G;refine(an.put y0 aG (aI.mono λa O l=>?_) (eH A.1) (λb h=>by have:=h.2;omega) (by omega) B (by omega)).mono ?_
   ·rcases l.1 with l|l
    ·have:=m a l;omega
    ·omega
   ·rintro e bd ⟨X,rfl,Z⟩;obtain⟨aW,aO,bc,aU,aK,aM,ab,y,J⟩:=Z.out;rw[if_pos G]at y;refine⟨X,_,rfl,λba am=>(J.block aR ar λa=>by have:=a.2;omega).trans am,y.cells56,λaY C=>?_⟩;have av:=y.kept (iR C) λb a _ e=>by
     rcases a with a|a
     ·have:=a.2;omega
     ·omega
    obtain⟨z,v⟩:=av.turned;refine⟨by simp[ak],?_,y0,aW,aO,X,aU,aK,aM,ab,z.mono (λb a=>?_) (by omega),λa=>(by cases a),λ_=>q⟩
    ·refine((((K.trans (aT d M) λ_ _ e=>e).trans J λb h a=>?_).trans (iR C) λb h a=>?_)).trans v λb h a=>?_
     ·rcases a.1 with a|a
      ·exact a
      ·omega
     ·omega
     ·rcases a with a|a
      ·rcases a.1 with a|a
       ·exact a
       ·omega
      ·omega
    ·rcases a with a|a
     ·rcases a.1 with a|a
      ·exact ae a
      ·exact af (by omega)
     ·exact af (by omega)
end
theorem fk{n:Nat}{x:Tm (n+1)}(g:bm (n+1) x=0){y:Tm n}(a:y∈x.2.2):bm n y=0:=by
 obtain⟨d,i,e⟩:=br.1 g;have c:av ⟨n+1,x⟩:=aG.2 d;have j:=nn c a;have f:=eg (bu n x) (c (bu n x) (by simp[ar,bu]));have b:x.1.1=4:=by
  by_cases b:x.1.1=4
  ·exact b
  ·have:x.2.2=[]:=bD (f.2.2.2.2 b);rw[this]at a;cases a
 have h:=s9 (λy=>1+sz n y) (λy=>by have:=(ey n y).1;omega) x.2.2 y a;simp only[sz,if_pos b]at e
 exact br.2 ⟨aG.1 (aN n x y c a),by omega,by
  have k:1+sz n y<=(x.2.2.map λy=>1+sz n y).sum:=h.1
  omega⟩
theorem tE{n:Nat}{x:Tm (n+1)}(a:bm (n+1) x=0)(i:Nat){y:Tm n}(b:x.2.2[i]?=some y):bm n y=0:=fk a (aC b)
theorem pP{n N:Nat}(c:n<=N)(x:Tm (n+1))(a:bm (N+1) (aK (N+1) (n+1) x)=0):bm (n+1) x=0:=by
 have e:av ⟨n+1,x⟩:=λb d=>(aG.2 (br.1 a).1) b (by rw[mE N n c x];exact d);rw[<-bH (eU (N+1) (n+1) (by omega) x e)];exact a
def o9{n:Nat}(c:Cl (n+1)):Prop:=bm (n+1) c.1.1=0/\bm (n+1) c.1.2.1=0/\bm (n+1) c.1.2.2=0/\c.2.2.length<=8/\∀a∈c.2.2,LS a
theorem Ef{n:Nat}{p:List (Bh (n+1))}(d:mZ n p=0):jP (n+1) p=true/\∀b∈p,b.2.2.length<=6/\∀c∈b.2.2,o9 c:=by
 unfold mZ at d;cases e:jP (n+1) p with
 | false=>rw[e]at d;cases d
 | true=>
  rw[e,if_pos rfl]at d;refine⟨rfl,λb l=>?_⟩;unfold jP at e;simp only[ay,bX]at e;have h:=e.2 b l;unfold vd at h;simp only[ay,bX,bT]at h;refine⟨by omega,λc m=>?_⟩;have i:=h.2 c m;unfold sE at i;simp only[ay,bX,bT]at i;have o:bm (n+5) (dz n b)=0:=fk d (by simp only[bR,cR];exact bI _ (iH l));have f:bm (n+4) (dp n c)=0:=fk o (by simp only[dz,cR];exact bI _ (bI _ (iH m)));have s:bm (n+3) (cR (n+2) (c.2.2.map (bU n)))=0:=tE f 3 rfl;refine⟨pP (N:=n+2) (by omega) _ (tE f 1 rfl),pP (N:=n+2) (by omega) _ (tE f 2 rfl),pP (N:=n+2) (by omega) _ (tE f 4 rfl),by omega,λj k=>?_⟩;have g:bm (n+2) (bU n j)=0:=fk s (by simp only[cR];exact iH k);refine⟨i.2 j k,λr=>?_,λq=>?_⟩
  ·rcases r with a|a
   ·exact fk g (by simp[bU,a,cR])
   ·exact fk g (by simp[bU,a,cR])
  ·rcases q with a|a
   ·exact fk g (by simp[bU,a,cR])
   ·exact fk g (by simp[bU,a,cR])
section
variable {base db:Nat} {self:Int} {n D k:Nat} {nx:Int} {d:Dg} {w:World} {l:List (Tm (D+1))} {bg bc:Nat} {sd:List (Int×Tm (D+1+n+1))} {sp:List (Int×ByteArray×Tm (D+1+n+1))} {sv pv lv:Value}
theorem dR.kept(a:dR base db self n D k nx d w l bg bc sd sp sv pv lv){S:Nat->Prop}{w':World}(i:bi S w w')(m:∀b,base<=b->b<w.heap.size->¬S b):dR base db self n D k nx d w' l bg bc sd sp sv pv lv:=by
 have Q:=i.size;obtain⟨L,B,v,p,R⟩:=a.own;have s:∀{g:Nat}{y:Tm g},In w.heap.size w g y->bV (JS base db bg sv pv lv) g y->In w'.heap.size w' g y:=λG H=>G.kee (i.mono (T:=λb=>S b/\b<w.heap.size) λb E f=>⟨f,E⟩) (H.mono λf h (e:S f/\f<w.heap.size)=>m f h.1 e.2 e.1);have u:∀{q:TypeId}{e g:Nat}{x:Value}{z:List Value},w.ownsRow base q e x g z->w'.ownsRow base q e x g z:=λ{q e g x z} t=>aW t i λf h o=>by
  obtain⟨N,F⟩:=dQ t f h;refine m f ?_ (aA.1 F).1 o;rcases t.2 with⟨r,_⟩|⟨C,cap,O,r,P,_⟩
  ·rw[r]at h;cases h
  ·rw[r]at h;have:C=f:=aq h;omega
 refine⟨(i.block db a.lt (m db B a.lt)).trans a.box,⟨L,B,v,by omega,by omega⟩,a.bnd,a.tells,λJ M I=>?_,λK=>?_,u a.sRow,u a.pRow,u a.lRow,a.sIs,a.pIs,λe o=>?_,λe o=>?_,a.apart,a.few⟩
 ·obtain⟨j,b,c⟩:=a.row J M I;exact⟨j.kee i p (m bg v p),s b c,c⟩
 ·have A:=a.free K;unfold World.frozen? at A ⊢;rw[i.block bg p (m bg v p)];exact A
 ·obtain⟨j,b,c⟩:=a.sIn e o;exact⟨j,s b c,c⟩
 ·obtain⟨j,b,c⟩:=a.pIn e o;exact⟨j,s b c,c⟩
theorem dR.low(b:dR base db self n D k nx d w l bg bc sd sp sv pv lv):∀q,kI db bg sv pv lv q->q<w.heap.size:=by
 have c:∀{f:TypeId}{i g q:Nat}{e:Value}{h:List Value},w.ownsRow base f i e g h->e.ownBlock=some q->q<w.heap.size:=λ{f i g q e h} m a=>by
  obtain⟨o,j⟩:=dQ m q a;exact(aA.1 j).1
 intro q a;rcases a with rfl|rfl|a|a|a
 ·exact b.lt
 ·exact b.own.2.2.2.1
 ·exact c b.sRow a
 ·exact c b.pRow a
 ·exact c b.lRow a
def M9(u t:Nat)(name:ByteArray)(room:Int)(s:Tc)(ms:List Tc)(q:Nat)(M:Nat->Prop)(base db:Nat)(self:Int)(n D:Nat)(nx:Int)(c:Cl (n+1))(b:List Tc)(S:Nat->Prop)(w:World)(f:Int)(w':World):Prop:=
 f=(eI room self nx (cn 13 s) (cn 13 s) (ms.map (cn 13)) c b).fate/\bi (λa=>M a\/S a) w w'/\(∃j z r e y o p k,cr u t name room 13 j ms [] (q+402) (λa=>M a\/w.heap.size<=a) w' z r e y o p k/\cn 13 j=(eI room self nx (cn 13 s) (cn 13 s) (ms.map (cn 13)) c b).state)/\
  ((f=0\/f=1)->∃d m g l v x e i h,dR base db self n D 8 nx d w' m g l v x e i h/\d.sends=(eI room self nx (cn 13 s) (cn 13 s) (ms.map (cn 13)) c b).sends/\d.spawns=(eI room self nx (cn 13 s) (cn 13 s) (ms.map (cn 13)) c b).spawns/\d.links=(eI room self nx (cn 13 s) (cn 13 s) (ms.map (cn 13)) c b).links/\∀a,kI db g e i h a->¬(M a\/w'.heap.size<=a))
theorem MO{ms:List Tc}(a:∀y∈ms,bm 13 y=0):((ms.map (cn 13)).map (sz 13)).sum=(ms.map (sz 13)).sum:=by
 rw[fV];congr 1;exact iG λy b=>DK (a y b)
theorem Ca{Q I:Nat}{name:ByteArray}{room:Int}{s:Tc}{ms:List Tc}{P:Nat}{M:Nat->Prop}{ws:List Wd}{nm:List ByteArray}{ap:Wd}{vs:List Wd}{ma:Option Addr}{am:Nat}{Mh:Nat->Prop}{b:List Tc}(a1:cr Q I name room 13 s ms [] P M w ws nm ap vs ma am Mh)(T:dR base db self n D 0 nx d w l bg bc sd sp sv pv lv)(aC:d=⟨b,nx,[],[],[],false⟩)(c:Cl (n+1))(aW:gE (n+1) base w c)(bn:o9 c)(a2:1<=self/\self<=99)(L:∀q,M q->q<base)(bM:Q<=base)(bl:P<=48000)(bf:ms.length<=999):ah 72 #[.pointer (some ⟨I,0,none⟩),.agg (eE (n+1) c).toArray,.pointer (some ⟨db,0,none⟩)] w λe w'=>∃f,e=.returned (.int .i64 f)/\M9 Q I name room s ms P M base db self n D nx c b (kI db bg sv pv lv) w f w':=by
 obtain⟨bK,bL,aT,ba,bb⟩:=bn;have aI:=T.own.2.2.2.2;have bj:∀{h:World},bi (kI db bg sv pv lv) w h->Below base w h:=λm=>m.below aI λb E q=>by
  have:=T.high b q;omega
 have aL:∀{h:World},bi (kI db bg sv pv lv) w h->cr Q I name room 13 s ms [] P M h ws nm ap vs ma am Mh:=λm=>a1.kept (N:=12) (iR m) λb E _ q=>by
  have:=L b E;have:=T.high b q;omega
 have aD:∀{h:World},bi (kI db bg sv pv lv) w h->bi (λq=>M q\/kI db bg sv pv lv q) w h:=λm=>m.mono λq _ a=>af a;have bk:∀g∈ms,bm 13 g=0:=λg bu=>(a1.front.2.2.1 g (bI _ bu)).1
 refine zS (D+1+n) c.1.1.1.1 c.1.1.1.2.1 c.1.1.1.2.2 c.1.1.2.1.1 c.1.1.2.2.length c.1.1.2.1.2 c.1.2.1.1.1 c.1.2.1.1.2.1 c.1.2.1.1.2.2 c.1.2.1.2.1.1 c.1.2.1.2.2.length c.1.2.1.2.1.2 c.2.1.1 c.2.2.length c.2.1.2 c.1.2.2.1.1 c.1.2.2.1.2.1 c.1.2.2.1.2.2 c.1.2.2.2.1.1 c.1.2.2.2.2.length c.1.2.2.2.1.2 I db w
  (λh=>bi (kI db bg sv pv lv) w h/\∃i x v u A B C z y,pq self c.2.2 d=some i/\dR base db self n D 8 nx i h x v u A B C z y)
  (λt g S=>∃h i x v u A B C z y,bi (kI db bg sv pv lv) w h/\pq self c.2.2 d=some i/\dR base db self n D 8 nx i h x v u A B C z y/\ag h S/\In S.heap.size S (D+1+n+1) g/\bV (λq=>h.heap.size<=q) (D+1+n+1) g/\t=(qV i.b self (n+1) c.1.2.2).isSome/\∀r,qV i.b self (n+1) c.1.2.2=some r->bm _ g=0/\aF _ g=true/\cn _ g=r)
  (M9 Q I name room s ms P M base db self n D nx c b (kI db bg sv pv lv) w) ?_ ?_ ?_ ?_
 ·intro h Y;refine((T.later Y).all c.2.2 c.2.1.1 c.2.1.2 ?_ bb ba a2).mono ?_
  ·rcases aW.2.2 with e|⟨q,o,e,a,aX⟩
   ·exact ae e
   ·exact af ⟨q,o,e,a,λaP aS aZ=>⟨λa4 bF bh=>(Y.cell (p:=⟨q,o+aP*11+a4,none⟩) (aJ a aI)).trans ((aX aP aS aZ).1 a4 bF bh),((aX aP aS aZ).2).later (Y.mono aI)⟩⟩
  ·rintro e w' ⟨t,rfl,ay⟩;obtain⟨aq,J,aQ⟩:=ay.out;have m:bi (kI db bg sv pv lv) w w':=(aE Y _).trans aq λ_ _ e=>e;refine⟨t,rfl,λq bP a a0=>(aq.block q (aA.1 a0).1 λk=>by have:=T.low q k;omega).trans a0,λG=>⟨m,?_⟩,λaa=>?_⟩
   ·rw[G]at J;obtain⟨aU,aY⟩:=fY.1 J.symm;obtain⟨bw,a9,a8,bB,bC,R,bz,bx,bv,_⟩:=aQ aU aY;exact⟨aU,bw,a9,a8,bB,bC,R,bz,bx,aY,bv⟩
   ·rw[aa]at J;have Z:pq self c.2.2 d=none:=j0.1 (by rw[<-j8,<-J];rfl);rw[aC]at Z;have j:eI room self nx (cn 13 s) (cn 13 s) (ms.map (cn 13)) c b=⟨cn 13 s,2,[],[],[],cn 13 s,ms.map (cn 13)⟩:=by simp[eI,Z]
    refine⟨by rw[j],aD m,⟨s,ws,nm,ap,vs,ma,am,Mh,(aL m).mono (N:=12) (λq a=>ae a) (by omega),by rw[j]⟩,λk=>?_⟩;omega
 ·rintro h ⟨m,i,x,v,u,A,B,C,z,y,F,K⟩;obtain⟨bD,bE⟩:=K.told (self:=self) c.1.2.2 aT;refine(K.value c.1.2.2 (aW.1.2.2.below (bj m)) aT a2 h (ak _ _)).mono ?_;rintro e w' ⟨g,rfl,a7⟩;obtain⟨y1,y2,aR,W⟩:=a7.out;exact⟨g,_,rfl,h,i,x,v,u,A,B,C,z,y,m,F,K,y1,y2,aR,bD,λr G=>bE g r G W⟩
 ·rintro g S az ⟨h,i,x,v,u,A,B,C,z,y,m,F,K,y1,_,_,W,_⟩ E;have Z:qV i.b self (n+1) c.1.2.2=none:=j0.1 (by rw[<-j8,<-W];rfl);rw[aC]at F;have j:eI room self nx (cn 13 s) (cn 13 s) (ms.map (cn 13)) c b=⟨cn 13 s,2,[],[],[],cn 13 s,ms.map (cn 13)⟩:=by simp[eI,F,Z]
  have U:bi (kI db bg sv pv lv) w az:=(m.trans (aE y1 (λ_=>False)) λ_ _ e=>e.elim).trans (aE E (λ_=>False)) λ_ _ e=>e.elim;refine⟨by rw[j],aD U,⟨s,ws,nm,ap,vs,ma,am,Mh,(aL U).mono (N:=12) (λq a=>ae a) (by omega),by rw[j]⟩,λk=>?_⟩;omega
 ·rintro g S az ⟨h,i,x,v,u,A,B,C,z,y,m,F,K,y1,y2,aR,W,bG⟩ E;obtain⟨r,G⟩:=fY.1 W.symm;obtain⟨ax,bJ,a6⟩:=bG r G;rw[aC]at F;have bO:=m.size;have bN:=y1.size;have bo:=E.size;have U:bi (kI db bg sv pv lv) w az:=(m.trans (aE y1 (λ_=>False)) λ_ _ e=>e.elim).trans (aE E (λ_=>False)) λ_ _ e=>e.elim;have aO:av ⟨D+1+n+1,g⟩:=aG.2 (br.1 ax).1;have aN:eW (D+1+n+1) g<13:=by have:=(br.1 ax).2.1;omega
  have aj:=iS 13 (D+1+n+1) g aO aN;have bp:=rB 13 (D+1+n+1) g _ _ aO aN ((y2.below E).mono bo);have bs:=sZ 13 (D+1+n+1) g _ aO aN aR;have bq:(aK 13 (D+1+n+1) g).2.2.length=g.2.2.length:=by simp[aK]
  have a3:cn 13 (aK 13 (D+1+n+1) g)=r:=(gL aj).trans a6;have bt:sz 13 (aK 13 (D+1+n+1) g)=sz 13 r:=by
   rw[kS _ _ _ _ aj,<-a6,DK ax]
  have aV:=(aL U).become (N:=12) (aK 13 (D+1+n+1) g) bp (bs.mono λq a k=>by have:=L q k;omega) ((bH aj).trans ax) ((co _ _ _ _ aj).trans bJ) (λq k=>by have:=L q k;omega) bl bf (by omega);rw[bq]at aV;refine aV.mono ?_;rintro e w' ⟨t,rfl,ay⟩;obtain⟨aq,J,ar,aw,ao,R,au,al,an,X,aQ,a5,bA⟩:=ay.out;have O:t=decide (((ms.map (cn 13)).map (sz 13)).sum+sz 13 r<=room):=by
   rw[MO bk,<-bt];exact aq
  have aH:bi (λq=>M q\/kI db bg sv pv lv q) w w':=(aD U).trans (gN J) λq _ a=>ae a
  have aB:cr Q I name room 13 ar ms [] (P+402) (λq=>M q\/w.heap.size<=q) w' aw ao R au al an X:=aQ.mono (N:=12) (λq a=>by
   rcases a with a|a
   ·exact ae a
   ·exact af (by omega)) (ai _)
  have H:dR base db self n D 8 nx i w' x v u A B C z y:=((K.later y1).later E).kept (gN J) λq a _ k=>by
   have:=L q k;omega
  refine⟨t,rfl,λaa=>?_,λad=>⟨i.stops,ab H.box 6,λaM=>?_,λaM=>?_⟩⟩
  ·rw[aa]at O;have V:¬((ms.map (cn 13)).map (sz 13)).sum+sz 13 r<=room:=of_decide_eq_false O.symm;have j:eI room self nx (cn 13 s) (cn 13 s) (ms.map (cn 13)) c b=⟨cn 13 s,3,[],[],[],cn 13 s,ms.map (cn 13)⟩:=by
    unfold eI;simp only[F,G];rw[if_neg V]
   refine⟨by rw[j],aH,⟨ar,aw,ao,R,au,al,an,X,aB,by rw[j];exact gL (bA aa)⟩,λk=>?_⟩;omega
  ·rw[ad]at O;have V:((ms.map (cn 13)).map (sz 13)).sum+sz 13 r<=room:=fD O.symm;have j:eI room self nx (cn 13 s) (cn 13 s) (ms.map (cn 13)) c b=⟨cn 13 s,1,i.sends,i.spawns,i.links,r,ms.map (cn 13)⟩:=by
    unfold eI;simp only[F,G];rw[if_pos V,aM];rfl
   refine⟨by rw[j],aH,⟨ar,aw,ao,R,au,al,an,X,aB,by rw[j,a5 ad];exact a3⟩,λ_=>⟨i,x,v,u,A,B,C,z,y,H,by rw[j],by rw[j],by rw[j],λq a k=>?_⟩⟩;have bd:=H.high q a;have be:=H.low q a;rcases k with k|k
   ·have:=L q k;omega
   ·omega
  ·rw[ad]at O;have V:((ms.map (cn 13)).map (sz 13)).sum+sz 13 r<=room:=fD O.symm;have j:eI room self nx (cn 13 s) (cn 13 s) (ms.map (cn 13)) c b=⟨cn 13 s,0,i.sends,i.spawns,i.links,r,ms.map (cn 13)⟩:=by
    unfold eI;simp only[F,G];rw[if_pos V,aM];rfl
   refine⟨by rw[j],aH,⟨ar,aw,ao,R,au,al,an,X,aB,by rw[j,a5 ad];exact a3⟩,λ_=>⟨i,x,v,u,A,B,C,z,y,H,by rw[j],by rw[j],by rw[j],λq a k=>?_⟩⟩;have bd:=H.high q a;have be:=H.low q a;rcases k with k|k
   ·have:=L q k;omega
   ·omega
end
end Go.Proofs.YtckamaoibonjcaaGreat
