/- What is proved here: plain facts and contracts that the claimed theorem stands on. No condition but those that each names. -/
import Derived.Test.YtckamaoibonjcaaGreatG22
namespace Go.Proofs.YtckamaoibonjcaaGreat
open Go.RowKit
set_option maxRecDepth 100000
set_option maxHeartbeats 2000000
def tf(w:World)(c:Nat)(a b:Int):World:=(w.setCell ⟨c,5,none⟩ (.int .i64 a)).setCell ⟨c,6,none⟩ (.int .i64 b)
def NM(b d e:Nat)(g t1:Int)(t2:ByteArray)(h:Option Addr)(j i:Nat)(s0 s1:Int)(f:ByteArray)(sa:Option Addr)(sl sc:Nat)(W:World):Prop:=
 W.heap[d]?=some (.cells #[.int .i64 g,.int .i64 t1,.string t2,.slice h j i] 30)/\W.heap[e]?=some (.cells #[.int .i64 s0,.int .i64 s1,.string f,.slice sa sl sc] 30)/\(∃a,W.cell? ⟨b,5,none⟩=some (.int .i64 a))/\(∃a,W.cell? ⟨b,6,none⟩=some (.int .i64 a))/\∀c,W.frozen? ⟨b,c,none⟩=false
theorem zj(m t1:Int)(t2:ByteArray)(n:Option Addr)(q o:Nat)(c:Nat)(w:World)(S:Int->Int->ByteArray->Option Addr->Nat->Nat->World->Prop)(P1:World->Wd->Int->World->Prop)(R:Bool->World->Prop)(aG:Hid (∀W,ag w W->ah 24 #[.pointer (some ⟨c,0,none⟩)] W λe w'=>∃s0 s1 h sa sl sc,e=.returned (.agg #[.int .i64 s0,.int .i64 s1,.string h,.slice sa sl sc])/\Hid (ag W w'/\S s0 s1 h sa sl sc w')))(aB:Hid (∀W,ag w W->(∃a,W.cell? ⟨c,5,none⟩=some (.int .i64 a))/\(∃a,W.cell? ⟨c,6,none⟩=some (.int .i64 a))/\(∀j,W.frozen? ⟨c,j,none⟩=false)/\c<w.heap.size))(aF:Hid (∀s0 s1 h sa sl sc aN I g i,S s0 s1 h sa sl sc aN->ag aN I->ag w I->w.heap.size<=g->w.heap.size<=i->NM c g i m t1 t2 n q o s0 s1 h sa sl sc (tf I c 1 0)->ah 109 #[.pointer (some ⟨c,0,none⟩),.agg #[.int .i64 m,.int .i64 t1,.string t2,.slice n q o]] (tf I c 1 0) λe w'=>∃(v:Wd)(s:Int),e=.returned (.tuple #[.agg #[.int .i64 v.1,.int .i64 v.2],.int .i64 s])/\Hid (NM c g i m t1 t2 n q o s0 s1 h sa sl sc w'/\P1 I v s w'/\ (s=0->∀W,ag w' W->R true (tf W c v.1 v.2))/\ (s≠0->∀W d,ag w' W->w'.heap.size<=d->d<W.heap.size->ah 109 #[.pointer (some ⟨c,0,none⟩),.agg #[.int .i64 s0,.int .i64 s1,.string h,.slice sa sl sc]] W λe M=>∃(v2:Wd)(aO:Int),e=.returned (.tuple #[.agg #[.int .i64 v2.1,.int .i64 v2.2],.int .i64 aO])/\Hid ((∀a3,W.heap[d]?=some a3->M.heap[d]?=some a3)/\((∃a,M.cell? ⟨c,5,none⟩=some (.int .i64 a))/\(∃a,M.cell? ⟨c,6,none⟩=some (.int .i64 a))/\∀j,M.frozen? ⟨c,j,none⟩=false)/\∀aM,bi (λb=>b=d) M aM->R false (tf aM c v2.1 v2.2)))))):ah 104 #[.pointer (some ⟨c,0,none⟩),.agg #[.int .i64 m,.int .i64 t1,.string t2,.slice n q o]] w λe w'=>∃t,e=.returned (.bool t)/\Hid (R t w'):=by
 have aI:Hid (∃Z l,(Z=w.alloc (.cells #[.int .i64 m,.int .i64 t1,.string t2,.slice n q o] 30)/\l=w.heap.size)/\ag w Z/\Z.heap[l]?=some (.cells #[.int .i64 m,.int .i64 t1,.string t2,.slice n q o] 30)/\w.heap.size<=l):=⟨_,_,⟨rfl,rfl⟩,(ak _ _).alloc (ai _) _,ax _ _,ai _⟩;go_enter Tryz.func104,Tryz.ntmps104;go_wp2_with fail;obtain⟨Z,g,⟨aZ,aY⟩,aQ,K,aV⟩:=aI.out;rw[<-aZ,<-aY];have ad:=aj aQ;have y:=aj K;have aC:=aj aV;clear aZ aY aQ K aV aI;refine(aG.out _ ad.out).mono ?_;rintro e aa ⟨s0,s1,h,sa,sl,sc,rfl,N⟩;have P:=aj (ad.out.trans (N.out.1.mono ad.out.size));have aJ:Hid (∃k l,(k=aa.alloc (.cells #[.int .i64 s0,.int .i64 s1,.string h,.slice sa sl sc] 30)/\l=aa.heap.size)/\ag aa k/\k.heap[l]?=some (.cells #[.int .i64 s0,.int .i64 s1,.string h,.slice sa sl sc] 30)/\w.heap.size<=l/\k.heap[g]?=some (.cells #[.int .i64 m,.int .i64 t1,.string t2,.slice n q o] 30)):=by
  have bb:=(aA.1 y.out).1;have aP:=(N.out.1.block g bb).trans y.out;exact⟨_,_,⟨rfl,rfl⟩,(ak _ _).alloc (ai _) _,ax _ _,P.out.size,(((ak _ _).alloc (ai _) _).block g (aA.1 aP).1).trans aP⟩
 have aH:=aj N.out.2;clear N aG y;go_upto_region 2 with fail;obtain⟨k,i,⟨a0,u⟩,au,aS,aW,K⟩:=aJ.out;rw[<-a0,<-u];have af:=aj (P.out.trans (au.mono P.out.size));have az:=aj au;have am:=aj aS;have y:=aj K;have aD:=aj aW;clear a0 u au aS aW K aJ;obtain⟨⟨bj,a6⟩,⟨bk,a7⟩,U,bo⟩:=aB.out k af.out;have an:=U 5;have ao:=U 6;have x:Hid (NM c g i m t1 t2 n q o s0 s1 h sa sl sc (tf k c 1 0)):=by
  have aU:bi (λb=>b=c) k (tf k c 1 0):=bi.trans (bt k c 5 _) (bt _ c 6 _) λ_ _ e=>e;refine⟨(aU.block g (aA.1 y.out).1 (by have:=aC.out;omega)).trans y.out,(aU.block i (aA.1 am.out).1 (by have:=aD.out;omega)).trans am.out,⟨1,?_⟩,⟨0,?_⟩,λj=>?_⟩
  ·exact(di 5 (by decide)).trans (jk _ _ _ a6)
  ·exact jk _ _ _ ((di 6 (by decide)).trans a7)
  ·unfold tf;rw[gi,gi];exact U j
 have al:=aj (aF.out s0 s1 h sa sl sc aa k g i aH.out az.out af.out aC.out aD.out x.out);clear aF U aB;go_upto_region 3 with fail;obtain⟨F,X⟩:∃F,F=tf k c 1 0:=⟨_,rfl⟩;rw[<-X]at al x;unfold tf at X;rw[<-X];have be:F.cell? ⟨g,0,none⟩=some (.int .i64 m):=ab x.out.1 0;have bf:F.cell? ⟨g,1,none⟩=some (.int .i64 t1):=ab x.out.1 1;have bg:F.cell? ⟨g,2,none⟩=some (.string t2):=ab x.out.1 2;have bh:F.cell? ⟨g,3,none⟩=some (.slice n q o):=ab x.out.1 3;clear X a6 a7 an ao y am af az P aH x;go_wp2_with fail;refine al.out.mono ?_;rintro e G ⟨v,s,rfl,r⟩;have aK:Hid (∃f l,(f=G.alloc (.cells #[.int .i64 v.1,.int .i64 v.2] 105)/\l=G.heap.size)/\ag G f/\f.heap[l]?=some (.cells #[.int .i64 v.1,.int .i64 v.2] 105)/\G.heap.size<=l):=⟨_,_,⟨rfl,rfl⟩,(ak _ _).alloc (ai _) _,ax _ _,ai _⟩;go_upto_region 4 with fail;obtain⟨f,d,⟨a1,A⟩,aR,aT,aX⟩:=aK.out;rw[<-a1,<-A];have D:=aj aR;have T:=aj aT;have aE:=aj aX;clear a1 A aR aT aX aK be bf bg bh al;have Q:Hid (c<G.heap.size):=by
  obtain⟨a,ar⟩:=r.out.1.2.2.1;exact jj G ⟨c,5,none⟩ ar
 have a8:Hid ((∃a,f.cell? ⟨c,5,none⟩=some (.int .i64 a))/\(∃a,f.cell? ⟨c,6,none⟩=some (.int .i64 a))/\∀j,f.frozen? ⟨c,j,none⟩=false):=by
  obtain⟨_,_,⟨a,ar⟩,⟨b,ba⟩,z⟩:=r.out.1;refine⟨⟨a,(D.out.cell (p:=⟨c,5,none⟩) Q.out).trans ar⟩,⟨b,(D.out.cell (p:=⟨c,6,none⟩) Q.out).trans ba⟩,λj=>?_⟩;have z:=z j;unfold World.frozen? at z ⊢;rw[D.out.block c Q.out];exact z
 have bl:f.cell? ⟨d,0,none⟩=some (.int .i64 v.1):=ab T.out 0;have bm:f.cell? ⟨d,1,none⟩=some (.int .i64 v.2):=ab T.out 1;by_cases J:s=0
 ·have H:=aj (r.out.2.2.1 J f D.out);unfold tf at H;obtain⟨⟨a,Y⟩,⟨b,aw⟩,E⟩:=a8.out;have an:=E 5;have ao:=E 6;clear E r;subst J;go_wp2_with fail
  go_ret
  exact⟨true,rfl,H.out⟩
 ·have bn:¬(0:Int)=s:=λe=>J e.symm;have a9:=aj (r.out.2.2.2 J f d D.out aE.out (aA.1 T.out).1);have u:=(D.out.block i (aA.1 r.out.1.2.1).1).trans r.out.1.2.1;have br:f.cell? ⟨i,0,none⟩=some (.int .i64 s0):=ab u 0;have bs:f.cell? ⟨i,1,none⟩=some (.int .i64 s1):=ab u 1;have bu:f.cell? ⟨i,2,none⟩=some (.string h):=ab u 2;have bv:f.cell? ⟨i,3,none⟩=some (.slice sa sl sc):=ab u 3;clear u r;go_wp2_with fail;refine a9.out.mono ?_;rintro e B ⟨v2,aO,rfl,O⟩;have A:=O.out.1 _ T.out;have a4:B.cell? ⟨d,0,none⟩=some (.int .i64 v.1):=ab A 0;have a5:B.cell? ⟨d,1,none⟩=some (.int .i64 v.2):=ab A 1;have ay:∀j,B.frozen? ⟨d,j,none⟩=false:=λj=>by simp[World.frozen?,A]
  have bc:=ay 0;have bd:=ay 1;have aL:Hid (∃C,C=(B.setCell ⟨d,0,none⟩ (.int .i64 v2.1)).setCell ⟨d,1,none⟩ (.int .i64 v2.2)/\(C.cell? ⟨d,0,none⟩=some (.int .i64 v2.1)/\C.cell? ⟨d,1,none⟩=some (.int .i64 v2.2))/\bi (λb=>b=d) B C):=by
   refine⟨_,rfl,⟨?_,?_⟩,bi.trans (bt B d 0 _) (bt _ d 1 _) λ_ _ e=>e⟩
   ·exact(di 0 (by decide)).trans (jk _ _ _ a4)
   ·exact jk _ _ _ ((di 1 (by decide)).trans a5)
  clear ay A;go_upto_region 6 with fail;obtain⟨C,a2,⟨y0,y1⟩,L⟩:=aL.out;rw[<-a2];have H:=aj (O.out.2.2 C L);unfold tf at H;obtain⟨⟨a,Y⟩,⟨b,aw⟩,E⟩:=O.out.2.1;have V:=jj B ⟨c,5,none⟩ Y;have av:c≠d:=by have:=Q.out;have:=aE.out;omega
  have bp:=(L.cell 5 V av).trans Y;have bq:=(L.cell 6 V av).trans aw;have aq:∀j,C.frozen? ⟨c,j,none⟩=false:=λj=>by
   have z:=E j;unfold World.frozen? at z ⊢;rw[L.block c V av];exact z
  have an:=aq 5;have ao:=aq 6;clear a2 aL L Y aw E aq O a4 a5 bc bd V;go_wp2_with fail;exact ap (v:=.bool (s==0)) (by simp[results,Tryz.results104,go_sem]) rfl (ae ⟨bG (by simpa using J),H.out⟩)
def eZ(n m:Nat):Option (Tm n)->Option (Tm m)->Prop
 | none,none=>True
 | some x,some y=>au n x m y=true
 | _,_=>False
theorem mI{n m k l:Nat}{o:Option (Tm n)}{p:Option (Tm m)}{f:Tm n->Option (Tm k)}{g:Tm m->Option (Tm l)}(a:eZ n m o p)(b:∀x y,au n x m y=true->eZ k l (f x) (g y)):eZ k l (o.bind f) (p.bind g):=by
 cases o with
 | none=>
  cases p with
  | none=>trivial
  | some _=>exact a.elim
 | some x=>
  cases p with
  | none=>exact a.elim
  | some y=>exact b x y a
theorem il{n m N M:Nat}(c:n<=N)(b:m<=M){x:Tm n}{y:Tm m}(d:av ⟨n,x⟩)(e:av ⟨m,y⟩)(a:au n x m y=true):au N (aK N n x) M (aK M m y)=true:=
 bM _ _ _ _ _ _ (eU N n c x d) (bM _ _ _ _ _ _ a (dF _ _ _ _ (eU M m b y e)))
theorem kt:(n:Nat)->(x:Tm n)->(m:Nat)->(y:Tm m)->au n x m y=true->bK ⟨n,x⟩=bK ⟨m,y⟩/\oN n x=oN m y
 | 0,_,_,_,h=>by simp[au]at h
 | _+1,_,0,_,h=>by simp[au]at h
 | n+1,x,m+1,y,h=>by
  simp only[au,ay,b9]at h;exact⟨h.1.1.1,h.1.1.2⟩
theorem wN{N M:Nat}{a c:Tm N}{b d:Tm M}(h:au N a M b=true)(i:au N c M d=true):eZ (N+1) (M+1) (sQ N a c) (sQ M b d):=by
 have e:=kt _ _ _ _ h;have f:=kt _ _ _ _ i;have g:yz N a c=yz M b d:=by
  unfold yz;rw[e.1,e.2,f.1,f.2]
 unfold sQ;rw[<-g,<-e.2,<-f.2];cases yz N a c
 ·simp[eZ]
 ·simp[eZ,au,bF,az]
theorem tw{i:Type}{N M:Nat}(f:i->Option (Tm N))(g:i->Option (Tm M)):(p:List i)->(∀a∈p,eZ N M (f a) (g a))->eZ (N+1) (M+1) ((cw f p).map (cR N)) ((cw g p).map (cR M))/\((cw f p=none/\cw g p=none)\/∃l r,cw f p=some l/\cw g p=some r/\az (λx y=>au N x M y) l r=true)
 | [],_=>⟨by simp[cw,eZ,au,cR,az],af ⟨[],[],rfl,rfl,rfl⟩⟩
 | a::p,h=>by
  have b:=h a (by simp);have n:=(tw f g p λx o=>h x (by simp[o])).2;simp only[cw];cases e1:f a with
  | none=>
   rw[e1]at b;cases c:g a with
   | none=>simp[eZ]
   | some _=>rw[c]at b;exact b.elim
  | some m=>
   rw[e1]at b;cases c:g a with
   | none=>rw[c]at b;exact b.elim
   | some v=>
    rw[c]at b;have j:au N m M v=true:=b;rcases n with⟨d,e⟩|⟨l,r,d,e,k⟩
    ·rw[d,e];simp[eZ]
    ·rw[d,e];exact⟨by simp[eZ,au,cR,az,j,k],af ⟨m::l,v::r,rfl,rfl,by simp[az,j,k]⟩⟩
theorem qP(m:Nat)(b:List (Tm m))(f:Nat)(a:List (Tm f))(self:Int)(i:az (λx y=>au m x f y) b a=true)(p:∀y∈b,av ⟨m,y⟩)(q:∀y∈a,av ⟨f,y⟩):(n:Nat)->(x:Tm n)->av ⟨n,x⟩->eZ (m+n) (f+n) (vl m b self n x) (vl f a self n x)
 | 0,_,_=>trivial
 | n+1,x,hx=>by
  have z:=cu _ _ _ i;have w:au (n+1) x (n+1) x=true:=eV _ _ hx;unfold vl;by_cases k:x.1.1=5
  ·rw[if_pos k,if_pos k];cases e:b[x.1.2.1.toNat]? with
   | none=>
    have g:a[x.1.2.1.toNat]?=none:=by
     rw[List.getElem?_eq_none_iff]at e ⊢;omega
    rw[g];trivial
   | some y=>
    obtain⟨u,_⟩:=aL.1 e;have g:a[x.1.2.1.toNat]?=some a[x.1.2.1.toNat]:=aD (by omega);rw[g];have s:au m y f a[x.1.2.1.toNat]=true:=iV _ _ _ i _ _ _ e g;simp only[dl];rw[<-(kt _ _ _ _ s).1];by_cases d:bK ⟨m,y⟩=6
    ·rw[if_pos d,if_pos d];trivial
    ·rw[if_neg d,if_neg d];exact il (by omega) (by omega) (p y (aC e)) (q _ (aC g)) s
  ·rw[if_neg k,if_neg k];by_cases d:x.1.1=6
   ·rw[if_pos d,if_pos d];trivial
   ·rw[if_neg d,if_neg d];by_cases j:x.1.1=4
    ·rw[if_pos j,if_pos j];by_cases r:sY n x.2.2 oZ 0=true
     ·rw[if_pos r,if_pos r];simp[eZ,au,bF,az]
     ·rw[if_neg r,if_neg r];by_cases l:sY n x.2.2 uW 2=true
      ·rw[if_pos l,if_pos l];cases e1:x.2.2[1]? with
       | none=>trivial
       | some h=>
        cases g:x.2.2[2]? with
        | none=>trivial
        | some c=>
         simp only[dl];exact mI (qP m b f a self i p q n h (aN n x h hx (aC e1))) λA C u=>mI (qP m b f a self i p q n c (aN n x c hx (aC g))) λB D v=>wN u v
      ·rw[if_neg l,if_neg l];by_cases o:sY n x.2.2 Bt 1=true
       ·rw[if_pos o,if_pos o];cases e1:x.2.2[1]? with
        | none=>trivial
        | some h=>
         have t:=aN n x h hx (aC e1);simp only[dl];cases aF n h
         ·simp[eZ]
         ·exact il (by omega) (by omega) t t (eV _ _ t)
       ·rw[if_neg o,if_neg o];exact(tw _ _ x.2.2 λy s=>qP m b f a self i p q n y (aN n x y hx s)).1
    ·rw[if_neg j,if_neg j];exact il (by omega) (by omega) hx hx w
def JT:(D:Nat)->(n:Nat)->Tm n->Tm D
 | 0,_,_=>()
 | _+1,0,_=>((0,0,.empty),(none,0),[])
 | D+1,n+1,x=>(x.1,(none,0),x.2.2.map λy=>JT D n y)
theorem G7:(D:Nat)->(n:Nat)->(x:Tm n)->(m:Nat)->(y:Tm m)->au n x m y=true->JT D n x=JT D m y
 | 0,_,_,_,_,_=>rfl
 | D+1,0,_,_,_,h=>by simp[au]at h
 | D+1,n+1,_,0,_,h=>by simp[au]at h
 | D+1,n+1,x,m+1,y,h=>by
  obtain⟨c,d⟩:=bz h;have e:=jQ _ (λa=>JT D n a) (λb=>JT D m b) _ _ (λa _ b f=>G7 D n a m b f) d;simp only[JT,c,e];rfl
theorem zH{n:Nat}:(l:List (Tm n))->(m:Int)->m<=l.foldl (λm y=>max m (eW n y)) m/\∀y∈l,eW n y<=l.foldl (λm y=>max m (eW n y)) m
 | [],m=>⟨iD _,λy b=>by simp at b⟩
 | a::l,m=>by
  obtain⟨d,c⟩:=zH l (max m (eW n a));simp only[fU];refine⟨by omega,λy b=>?_⟩;rcases cv.1 b with rfl|b
  ·omega
  ·exact c y b
theorem nn{n:Nat}{x:Tm (n+1)}(e:av ⟨n+1,x⟩){y:Tm n}(c:y∈x.2.2):eW n y+1<=eW (n+1) x:=by
 have d:x.1.1=4:=by
  have b:=e _ (oA ..);simp only[cm,ay,gU,b9,oq,decide_eq_false_iff_not]at b;rcases b.2 with a|a
  ·exact a
  ·have:=List.length_pos_of_mem c;omega
 have:=(zH x.2.2 0).2 y c;simp only[eW,if_pos d];omega
theorem zn:(D:Nat)->(n:Nat)->(x:Tm n)->av ⟨n,x⟩->eW n x<D->au D (JT D n x) n x=true
 | _,0,_,h,_=>(cY h).elim
 | 0,n+1,x,_,h=>by
  have:=(fH (n+1) x).1;omega
 | D+1,n+1,x,hr,h=>cW rfl (iq _ _ _ λy a=>zn D n y (aN n x y hr a) (by
  have:=nn hr a
  omega))
theorem iS:(D:Nat)->(n:Nat)->(x:Tm n)->av ⟨n,x⟩->eW n x<D->au D (aK D n x) n x=true
 | _,0,_,h,_=>(cY h).elim
 | 0,n+1,x,_,h=>by
  have:=(fH (n+1) x).1;omega
 | D+1,n+1,x,hr,h=>cW rfl (iq _ _ _ λy a=>iS D n y (aN n x y hr a) (by
  have:=nn hr a
  omega))
theorem IB(D n:Nat)(x:Tm n)(w:World)(b o:Nat)(g:0<D)(k:dy w b o n x):dy w b o D (aK D n x):=by
 cases n with
 | zero=>exact k.elim
 | succ n=>
  obtain⟨D,rfl⟩:∃a,D=a+1:=⟨D-1,by omega⟩;obtain⟨c,d,e,f⟩:=k;exact⟨c,d,e,by simpa [aK]using f⟩
theorem rB:(D n:Nat)->(x:Tm n)->(B:Nat)->(w:World)->av ⟨n,x⟩->eW n x<D->In B w n x->In B w D (aK D n x)
 | _,0,_,_,_,_,_,k=>k.elim
 | 0,n+1,x,_,_,_,h,_=>by
  have:=(fH (n+1) x).1;omega
 | D+1,n+1,x,B,w,hr,h,k=>by
  obtain⟨l,a⟩:=k;refine⟨by simpa [aK]using l,?_⟩;rcases a with a|⟨b,o,e,j,a⟩
  ·exact ae (by simp[aK,a])
  ·refine af ⟨b,o,e,j,λi y g=>?_⟩;simp only[aK,dj]at g;obtain⟨c,d,rfl⟩:=b8.1 g;have f:=aC d;have p:=nn hr f;have m:=(fH n c).1;exact⟨IB D n c w b _ (by omega) (a i c d).1,rB D n c B w (aN n x c hr f) (by omega) (a i c d).2⟩
theorem xS(D n:Nat)(x:Tm (n+1)):dd (D+1) (aK (D+1) (n+1) x)=dd (n+1) x:=by
 simp[dd,aK]
theorem sZ:(D n:Nat)->(x:Tm n)->(P:Nat->Prop)->av ⟨n,x⟩->eW n x<D->bV P n x->bV P D (aK D n x)
 | _,0,_,_,h,_,_=>(cY h).elim
 | 0,n+1,x,_,_,h,_=>by
  have:=(fH (n+1) x).1;omega
 | D+1,n+1,x,P,hr,h,k=>by
  rcases k with k|⟨b,o,e,g,k⟩
  ·exact ae (by simp[aK,k])
  ·refine af ⟨b,o,e,g,λi y d=>?_⟩;simp only[aK,dj]at d;obtain⟨a,f,rfl⟩:=b8.1 d;have c:=aC f;have j:=nn hr c;exact sZ D n a P (aN n x a hr c) (by omega) (k i a f)
abbrev Tc:Type:=Tm 13
def cn(n:Nat)(x:Tm n):Tc:=JT 13 n x
theorem gL{n m:Nat}{x:Tm n}{y:Tm m}(a:au n x m y=true):cn n x=cn m y:=G7 13 n x m y a
theorem eX{n:Nat}{x:Tm n}(a:bm n x=0):au 13 (cn n x) n x=true:=by
 obtain⟨b,c,_⟩:=br.1 a;exact zn 13 n x (aG.2 b) (by omega)
theorem Kl{n:Nat}{x:Tm n}(a:bm n x=0):cn 13 (cn n x)=cn n x:=gL (eX a)
theorem pj{n:Nat}{x:Tm n}(a:bm n x=0):bm 13 (cn n x)=0:=by rw[bH (eX a),a]
theorem DK{n:Nat}{x:Tm n}(a:bm n x=0):sz 13 (cn n x)=sz n x:=kS _ _ _ _ (eX a)
theorem lB{n:Nat}{x:Tm n}(a:bm n x=0):aF 13 (cn n x)=aF n x:=co _ _ _ _ (eX a)
theorem N3{n m:Nat}:(p:List (Tm n))->(q:List (Tm m))->az (λx y=>au n x m y) p q=true->p.map (cn n)=q.map (cn m):=λp q a=>jQ _ _ _ p q (λ_ _ _ b=>gL b) a
def mu:List An:=mX 1 (List.replicate 4 eN)
def Nm(a:An):Tc:=cn a.1 a.2
def kG{n:Nat}(c:Cl (n+1))(s m:Tc):Option (List Tc):=(gG (n+1) c.1.1 13 s mu).bind λb=>(gG (n+1) c.1.2.1 13 m b).map λa=>a.map Nm
def lA{n:Nat}(s m:Tc):List (Cl (n+1))->Option (Cl (n+1)×List Tc)
 | []=>none
 | c::l=>match kG c s m with
  | some b=>some (c,b)
  | none=>lA s m l
def ri{n:Nat}(l:List (Cl (n+1)))(s:Tc):List Tc->Nat->Option (Nat×Cl (n+1)×List Tc)
 | [],_=>none
 | m::ms,i=>match lA s m l with
  | some x=>some (i,x)
  | none=>ri l s ms (i+1)
theorem FC{x y:An}(a:dO x y=true)(d:BJ y):BJ x:=by
 obtain⟨b,c⟩:=d;refine⟨(bH a).trans b,?_⟩;rw[t8 a,co _ _ _ _ a];exact c
theorem rK{d g:Type}(f:d->g->Bool):(p:List d)->(q:List g)->az f p q=true->∀x∈p,∃y∈q,f x y=true
 | [],_,_,x,c=>by simp at c
 | _::_,[],h,_,_=>by simp[az]at h
 | a::p,b::q,h,x,c=>by
  simp only[az,ay]at h;rcases cv.1 c with rfl|c
  ·exact⟨b,by simp,h.1⟩
  ·obtain⟨y,i,e⟩:=rK f p q h.2 x c;exact⟨y,bI _ i,e⟩
theorem FD{p q:List An}(a:az dO p q=true)(b:∀y∈q,BJ y):∀x∈p,BJ x:=λx c=>by
 obtain⟨y,d,e⟩:=rK _ _ _ a x c;exact FC e (b y d)
theorem qY{n:Nat}:(l:List (Tm n))->(b:List An)->(∀y∈b,av y/\y.1<=n)->az (λx y=>au n x n y) l (b.map λa=>aK n a.1 a.2)=true->az dO (mX n l) b=true
 | [],[],_,_=>rfl
 | [],_::_,_,h=>by simp[az]at h
 | _::_,[],_,h=>by simp[az]at h
 | x::l,a::b,hb,h=>by
  simp only[aH,az,ay]at h;simp only[mX,aH,az,ay];obtain⟨c,d⟩:=hb a (by simp);exact⟨bM _ _ _ _ _ _ h.1 (eU n a.1 d a.2 c),qY l b (λy e=>hb y (bI _ e)) h.2⟩
theorem Hd{p q:List An}(a:az dO p q=true):p.map Nm=q.map Nm:=jQ _ _ _ p q (λ_ _ _ b=>gL b) a
theorem tx:az dO mu mu=true:=by
 refine ir _ _ λa b=>?_;exact eV _ _ (qB (BN a b))
theorem LH{n:Nat}{x:Tm n}(a:bm n x=0)(b:aF n x=true):BJ ⟨n,x⟩:=⟨a,af b⟩
theorem bV.both{P Q:Nat->Prop}:{n:Nat}->{x:Tm n}->bV P n x->bV Q n x->bV (λb=>P b/\Q b) n x
 | 0,_,p,_=>p
 | _+1,_,p,k=>by
  rcases p with p|⟨b,o,e,g,p⟩
  ·exact ae p
  ·rcases k with k|⟨j,l,a,h,k⟩
   ·exact ae k
   ·rw[e]at a;injection a with a;injection a with d f;subst d f;exact af ⟨b,o,e,⟨g,h⟩,λi y c=>(p i y c).both (k i y c)⟩
structure pV (D:Nat) (l:List (Tm D)) (B:List Tc) (b0:Nat) (w':World) (bg bc:Nat):Prop where
 bnd:fO D l=true
 tells:l.map (cn D)=B
 cap:4<=bc/\bc<=maxLen
 new:b0<=bg/\bg<w'.heap.size
 at':∀(i:Nat)(y:Tm D),l[i]?=some y->dy w' bg (i*4) D y/\In w'.heap.size w' D y/\bV (λq=>b0<=q/\q≠bg) D y
 free:∀j,w'.frozen? ⟨bg,j,none⟩=false
def LD{n:Nat}(c:Cl (n+1))(s m:Tc)(w:World)(e:Ending)(w':World):Prop:=
 ∃b len f g,e=.returned (.tuple #[.slice b len f,.bool g])/\Hid (ag w w'/\g=(kG c s m).isSome/\∀a,kG c s m=some a->len=4/\∃h l d,b=some ⟨d,0,none⟩/\pV h l a w.heap.size w' d f)
theorem Hw{n m k:Nat}(c:Cl (n+1))(s:Tm (m+1))(t:Tm (k+1))(R:bm (n+1) c.1.1=0)(S:bm (n+1) c.1.2.1=0)(A:bm (m+1) s=0)(T:aF (m+1) s=true)(B:bm (k+1) t=0)(U:aF (k+1) t=true){w w':World}{e:Ending}(Q:GO (gG (n+1) c.1.1 (m+1) s mu) (gG (n+1) c.1.2.1 (k+1) t) w e w'):LD c (cn (m+1) s) (cn (k+1) t) w e w':=by
 obtain⟨K,len,P,ap,rfl,J⟩:=Q;obtain⟨V,Z,ae⟩:=J.out;refine⟨K,len,P,ap,rfl,V,?_⟩;have f:=lE (n+1) c.1.1 (m+1) s (n+1) c.1.1 13 (cn (m+1) s) mu mu (eV _ _ (aG.2 (br.1 R).1)) (dF _ _ _ _ (eX A)) tx;cases e1:gG (n+1) c.1.1 (m+1) s mu with
 | none=>
  rw[e1]at f;cases e2:gG (n+1) c.1.1 13 (cn (m+1) s) mu with
  | some _=>
   rw[e2]at f;exact f.elim
  | none=>
   have j:kG c (cn (m+1) s) (cn (k+1) t)=none:=by simp[kG,e2]
   rw[j];exact⟨Z e1,λz i=>by cases i⟩
 | some b=>
  rw[e1]at f;cases e2:gG (n+1) c.1.1 13 (cn (m+1) s) mu with
  | none=>
   rw[e2]at f;exact f.elim
  | some q=>
   rw[e2]at f;have r:=ko BJ nA (n+1) c.1.1 (m+1) s (LH A T) mu b ⟨by simp[mu,mX],BN⟩ e1;obtain⟨o,X,aa,af⟩:=ae b e1;have p:az dO (mX (mm b) o) b=true:=qY o b (λa d=>⟨qB (r.2 a d),yF b a d⟩) X;have L:az dO (mX (mm b) o) q=true:=nD dO dO dO _ _ _ (λH _ a I aj G=>bM H.1 H.2 a.1 a.2 I.1 I.2 aj G) p f;have g:=lE (n+1) c.1.2.1 (k+1) t (n+1) c.1.2.1 13 (cn (k+1) t) _ _ (eV _ _ (aG.2 (br.1 S).1)) (dF _ _ _ _ (eX B)) L;cases e3:gG (n+1) c.1.2.1 (k+1) t (mX (mm b) o)with
   | none=>
    rw[e3]at g;cases e4:gG (n+1) c.1.2.1 13 (cn (k+1) t) q with
    | some _=>
     rw[e4]at g;exact g.elim
    | none=>
     have j:kG c (cn (m+1) s) (cn (k+1) t)=none:=by simp[kG,e2,e4]
     rw[j];exact⟨aa e3,λz i=>by cases i⟩
   | some h=>
    rw[e3]at g;cases e4:gG (n+1) c.1.2.1 13 (cn (k+1) t) q with
    | none=>
     rw[e4]at g;exact g.elim
    | some N=>
     rw[e4]at g;have j:kG c (cn (m+1) s) (cn (k+1) t)=some (N.map Nm):=by simp[kG,e2,e4]
     rw[j];obtain⟨ah,ai,E,aw,l,aq,F⟩:=af h e3;refine⟨ah,λz i=>⟨ai,mm h,l,?_⟩⟩;cases i;have ab:=FD p r.2;have Y:(mX (mm b) o).length=4:=by rw[cu _ _ _ p];exact r.1
     have C:=ko BJ nA (n+1) c.1.2.1 (k+1) t (LH B U) _ h ⟨Y,ab⟩ e3;have D:∀a∈h,av a:=λa d=>qB (C.2 a d);obtain⟨_,v,ag,_⟩:=DQ F D E;have W:=wP C.2 v E ag;obtain⟨_,_,ar,ak,al,x⟩:=F;rcases x with x|⟨O,bo,rfl,⟨au,rfl,an,ao⟩,am,y⟩
     ·rw[x]at v;simp at v
     ·refine⟨O,rfl,W,?_,⟨by omega,ak⟩,⟨by omega,am⟩,λu a d=>⟨?_,(y u a d).2.1,(bV.both (y u a d).2.2 (ao a (aC d))).mono λG ad=>⟨by omega,ad.2⟩⟩,an⟩;rotate_left
      ·have:=(y u a d).1;rw[cN]at this;exact this
      have M:az dO (mX (mm h) l) h=true:=qY l h (λa d=>⟨D a d,yF h a d⟩) al;rw[<-Hd g,<-Hd M];simp[mX,Nm]
theorem FQ{n m k:Nat}(c:Cl (n+1))(s:Tm (m+1))(t:Tm (k+1))(B:Nat)(w:World)(i:gE (n+1) B w c)(j:In B w (m+1) s)(l:In B w (k+1) t)(h:B<=w.heap.size)(a:bm (n+1) c.1.1=0)(b:bm (n+1) c.1.2.1=0)(d:bm (m+1) s=0)(e:aF (m+1) s=true)(f:bm (k+1) t=0)(g:aF (k+1) t=true):ah 101 #[.agg (eE (n+1) c).toArray,dd (m+1) s,dd (k+1) t] w (LD c (cn (m+1) s) (cn (k+1) t) w):=
 (FP n m k c s t B w i j l h a b d (by rw[<-eT];exact e) f (by rw[<-eT];exact g)).mono λ_ _ o=>Hw c s t a b d e f g o
theorem kQ:(N n:Nat)->n<=N->(x:Tm n)->aF N (aK N n x)=aF n x
 | 0,0,_,_=>rfl
 | _+1,0,_,_=>by simp[aK,aF]
 | 0,n+1,h,_=>by omega
 | N+1,n+1,h,x=>by
  have:(x.2.2.map λy=>aK N n y).all (λy=>aF N y)=x.2.2.all λy=>aF n y:=by
   rw[List.all_map];congr 1;funext y;exact kQ N n (by omega) y
  simp only[aF,aK];rw[this]
theorem wV(m:Nat)(b:List (Tm m))(self:Int)(k:∀y∈b,bK ⟨m,y⟩=6\/aF m y=true):(n:Nat)->(x:Tm n)->av ⟨n,x⟩->(j:Tm (m+n))->vl m b self n x=some j->aF (m+n) j=true
 | 0,_,_,_,d=>by simp[vl]at d
 | n+1,x,hr,j,d=>by
  have p:=eg (bu n x) (hr (bu n x) (by simp[ar,bu]));by_cases g:x.1.1=6
  ·rw[JG m b self n x g]at d;cases d
  ·by_cases f:x.1.1=5
   ·simp only[vl,f,cH]at d;obtain⟨y,h,d⟩:=bj.1 d;split at d
    ·cases d
    ·rename_i t;obtain rfl:=aq d;exact(kQ (m+n+1) m (by omega) y).trans ((k y (aC h)).resolve_left t)
   ·by_cases e:x.1.1=4
    ·rw[JH m b self n x e]at d;unfold vx at d;split at d
     ·obtain rfl:=aq d;simp[bF,aF]
     ·split at d
      ·obtain⟨a,q,d⟩:=bj.1 d;obtain⟨c,D,d⟩:=bj.1 d;obtain⟨A,C,d⟩:=bj.1 d;obtain⟨B,E,d⟩:=bj.1 d;unfold sQ at d;split at d
       ·obtain rfl:=aq d;simp[bF,aF]
       ·cases d
      ·split at d
       ·obtain⟨a,q,d⟩:=bj.1 d;split at d
        ·rename_i r;obtain rfl:=aq d;exact(kQ (m+n+1) n (by omega) a).trans r
        ·cases d
       ·obtain⟨l,u,rfl⟩:=b8.1 d;obtain⟨w,z⟩:=p8 _ _ _ u;show aF (m+n+1) (cR (m+n) l)=true;simp only[aF,cR];simp only[ay,bX];refine⟨by decide,λy h=>?_⟩;obtain⟨i,o⟩:=cM h;have s:i<x.2.2.length:=by rw[<-w];exact(aL.1 o).1
        exact wV m b self k n x.2.2[i] (aN n x _ hr (jc _)) y (z i _ y (aD s) o)
    ·rw[Es m b self n x e f g]at d;obtain rfl:=aq d;have v:x.2.2=[]:=bD (p.2.2.2.2 e);refine(kQ (m+n+1) (n+1) (by omega) x).trans ?_;simp[aF,f,g,v]
def fN(n:Nat)(name:ByteArray):List (Bh n)->Option (Bh n)
 | []=>none
 | b::l=>if b.1=name then some b else fN n name l
def Kk(n:Nat):Option (Bh n)->Value
 | none=> .slice none 0 0
 | some b=> .slice b.2.1.1 b.2.2.length b.2.1.2
theorem nN(n:Nat)(name:ByteArray){l:List (Bh n)}{j:Nat}{b:Bh n}(c:l[j]?=some b):fN n name (l.drop j)=if b.1=name then some b else fN n name (l.drop (j+1)):=by
 obtain⟨d,a⟩:=aL.1 c;rw[eP d,a];rfl
theorem tI(n:Nat)(name:ByteArray)(l:List (Bh n))(r:Option Addr)(D len B:Nat)(w:World)(G:l.length=len)(H:len<=9223372036854775807)(z:B<=w.heap.size)(x:Hid (gF n B w r l)):ah 70 #[.slice r len D,.string name] w λe w'=>e=.returned (Kk n (fN n name l))/\ag w w':=by
 go_enter Tryz.func70,Tryz.ntmps70;go_wp2_with fail;go_loopw [9] (λq wr=>∃a:Nat,a<=len/\q=.int .i64 a/\Hid (ag w wr/\fN n name l=fN n name (l.drop a))) (λq _=>len-(intOf q).toNat)
 case atStart=>exact⟨0,by omega,rfl,ak _ _,rfl⟩
 case round=>
 obtain⟨a,F,rfl,c⟩:=hrel;by_cases I:a<len
 ·obtain⟨b,d⟩:∃b,l[a]?=some b:=⟨l[a]'(by omega),aD _⟩;obtain⟨k,lo,rfl,C,v⟩:∃g o,r=some ⟨g,o,none⟩/\g<B/\Hid (∀(t:Nat)(f:Value),(oM n b)[t]?=some f->w.cell? ⟨g,o+a*2+t,none⟩=some f):=by
   rcases x.out with e|⟨g,o,e,A,y⟩
   ·rw[e]at d;simp at d
   ·exact⟨g,o,e,A,(y a _ d).1⟩
  have i:∀(t:Nat)(f:Value),(oM n b)[t]?=some f->wr.cell? ⟨k,lo+a*2+t,none⟩=some f:=λt f u=>(c.out.1.cell (p:=⟨k,lo+a*2+t,none⟩) (aJ C z)).trans (v.out t f u);have E:wr.cell? ⟨k,lo+a*2,none⟩=some (.string b.1):=i 0 _ rfl;have L:wr.cell? ⟨k,lo+a*2+1,none⟩=some (.slice b.2.1.1 b.2.2.length b.2.1.2):=i 1 _ rfl;have J:(0:Int)<=(a:Int):=by omega
  have K:(a:Int)<(len:Int):=by omega
  have s:Hid (∀o:Obj,ag w (wr.alloc o)):=λo=>c.out.1.alloc c.out.1.size o;by_cases j:b.1=name
  ·have h:Hid (fN n name l=some b):=by
     show _=_;rw[c.out.2,nN n name d,if_pos j]
   have m:Hid (Kk n (fN n name l)=.slice b.2.1.1 b.2.2.length b.2.1.2):=by
    show _=_;rw[h.out];rfl
   rw[j]at E;clear i c h d;go_wp2_with fail
   go_ret
   rw[m.out];exact⟨rfl,s.out _⟩
  ·have h:Hid (fN n name l=fN n name (l.drop (a+1))):=by
     show _=_;rw[c.out.2,nN n name d,if_neg j]
   have u:(b.1.toList==name.toList)=false:=by
    rw[f9];intro e;rw[bW,bW]at e;exact j (ByteArray.ext (Array.ext' e))
   clear i c d;go_wp2_with fail;go_roundw
   case rel=>exact⟨a+1,by omega,by go_num,s.out _,h.out⟩
   case measure=>simp[intOf];omega
 ·obtain rfl:a=len:=by omega
  have m:Hid (Kk n (fN n name l)=.slice none 0 0):=by
   show _=_;rw[c.out.2,ov (by omega)];rfl
  have HB:=aj c.out.1;clear c;go_wp2_with fail
  go_ret
  rw[m.out];exact⟨rfl,HB.out⟩
def qV(b:List Tc)(self:Int)(n:Nat)(x:Tm n):Option Tc:=(vl 13 b self n x).bind λa=>if bm (13+n) a=0 then some (cn (13+n) a)else none
def mF(b:List Tc)(self:Int)(n:Nat)(x:Tm n):Option Int:=(qV b self n x).bind λt=>if t.1.1=3 then some t.1.2.1 else none
structure Dg where
 b:List Tc
 next:Int
 sends:List (Int×Tc)
 spawns:List (Int×ByteArray×Tc)
 links:List Int
 stops:Bool
def CO(a:Int):Tc:=((3,a,.empty),(none,0),[])
def qp(self:Int){n:Nat}(a:Ac (n+1))(d:Dg):Option Dg:=
 if a.1=1 then (mF d.b self (n+1) a.2.1.1).bind λc=>(qV d.b self (n+1) a.2.1.2).map λt=>{d with sends:=d.sends++ [(c,t)]}
 else if a.1=2 then (qV d.b self (n+1) a.2.1.2).bind λt=>if bK ⟨13,(d.b[a.2.2.2.toNat]?).getD (CO 0)⟩=6 then some {d with b:=d.b.set a.2.2.2.toNat (CO d.next),next:=d.next+1,spawns:=d.spawns++ [(d.next,a.2.2.1,t)]}else none
 else if a.1=3 then (mF d.b self (n+1) a.2.1.1).map λc=>{d with links:=d.links++ [c]}
 else some {d with stops:=true}
def pq(self:Int){n:Nat}:List (Ac (n+1))->Dg->Option Dg
 | [],d=>some d
 | a::l,d=>(qp self a d).bind (pq self l)
structure Tk where
 message:Tc
 fate:Int
 sends:List (Int×Tc)
 spawns:List (Int×ByteArray×Tc)
 links:List Int
 state:Tc
 mail:List Tc
def eI{n:Nat}(room self next:Int)(s m:Tc)(ms:List Tc)(c:Cl (n+1))(b:List Tc):Tk:=
 match pq self c.2.2 ⟨b,next,[],[],[],false⟩with
 | none=>⟨m,2,[],[],[],s,ms⟩
 | some a=>match qV a.b self (n+1) c.1.2.2 with
  | none=>⟨m,2,[],[],[],s,ms⟩
  | some t=>if (ms.map (sz 13)).sum+sz 13 t<=room then ⟨m,if a.stops then 1 else 0,a.sends,a.spawns,a.links,t,ms⟩else ⟨m,3,[],[],[],s,ms⟩
def fP{n:Nat}(name:ByteArray)(l:List (Bh (n+1))):List (Cl (n+1)):=((fN (n+1) name l).map λb=>b.2.2).getD []
def lR{n:Nat}(room:Int)(l:List (Bh (n+1)))(name:ByteArray)(self next:Int)(s:Tc)(ms:List Tc):Option Tk:=
 (ri (fP name l) s ms 0).bind λa=>(ms[a.1]?).map λb=>eI room self next s b (ms.eraseIdx a.1) a.2.1 a.2.2
theorem wC{D:Nat}{l:List (Tm D)}{B:List Tc}(c:fO D l=true)(d:l.map (cn D)=B):az (λx y=>au D x 13 y) l B=true:=by
 rw[<-d];refine pI (λy x=>au 13 y D x) _ _ _ (λf _ b a=>dF _ _ _ _ a) (iq _ _ _ λy e=>?_);exact eX ((gK c).2 y e).1
theorem I7{D:Nat}{l:List (Tm D)}{B:List Tc}(b:fO D l=true)(c:l.map (cn D)=B):fO 13 B=true:=by
 have e:=wC b c;obtain⟨f,g⟩:=gK b;unfold fO;rw[<-cu _ _ _ e,f];simp only[decide_true,dX,bX];intro k d;rw[<-c]at d;obtain⟨j,i,rfl⟩:=bZ.1 d;have a:=g j i;have h:=eX a.1;simp only[AD,ay,b9,gU];refine⟨pj a.1,?_⟩;rw[jR h,<-eT,lB a.1];exact a.2.2
theorem JF{D n:Nat}{l:List (Tm D)}{B:List Tc}(b:fO D l=true)(g:l.map (cn D)=B)(self:Int)(x:Tm n)(k:bm n x=0):(nb 0 (vl D l self n x)).map (cn (D+n))=qV B self n x:=by
 have j:av ⟨n,x⟩:=aG.2 (br.1 k).1;have i:=I7 b g;have a:=qP D l 13 B self (wC b g) (λd c=>aG.2 (br.1 ((gK b).2 d c).1).1) (λd c=>aG.2 (br.1 ((gK i).2 d c).1).1) n x j;unfold qV nb;cases e1:vl D l self n x with
 | none=>
  rw[e1]at a;cases e2:vl 13 B self n x with
  | none=>rfl
  | some _=>
   rw[e2]at a;exact a.elim
 | some m=>
  rw[e1]at a;cases e2:vl 13 B self n x with
  | none=>
   rw[e2]at a;exact a.elim
  | some h=>
   rw[e2]at a;have f:au (D+n) m (13+n) h=true:=a;simp only[cH,dl];rw[bH f];by_cases e:bm (13+n) h=0
   ·simp[e,gL f]
   ·simp[e]
theorem MU{n:Nat}{B:List Tc}(d:fO 13 B=true){self:Int}{x:Tm n}(f:bm n x=0){t:Tc}(a:qV B self n x=some t):bm 13 t=0/\aF 13 t=true/\cn 13 t=t:=by
 have e:av ⟨n,x⟩:=aG.2 (br.1 f).1;unfold qV at a;obtain⟨c,h,a⟩:=bj.1 a;by_cases b:bm (13+n) c=0
 ·rw[if_pos b]at a;obtain rfl:=aq a;refine⟨pj b,?_,Kl b⟩;rw[lB b];exact wV 13 B self (λi g=>((gK d).2 i g).2.2) n x e c h
 ·rw[if_neg b]at a;cases a
def kI(b a:Nat)(d c lv:Value)(q:Nat):Prop:=q=b\/q=a\/d.ownBlock=some q\/c.ownBlock=some q\/lv.ownBlock=some q
def JS(base b a:Nat)(d c lv:Value)(q:Nat):Prop:=base<=q/\¬kI b a d c lv q
structure dR (base db:Nat) (me:Int) (n D k:Nat) (nx:Int) (d:Dg) (w:World) (l:List (Tm (D+1))) (bg bc:Nat) (sd:List (Int×Tm (D+1+n+1))) (sp:List (Int×ByteArray×Tm (D+1+n+1))) (sv pv lv:Value):Prop where
 box:w.heap[db]?=some (.cells #[.slice (some ⟨bg,0,none⟩) 4 bc,.int .i64 me,.int .i64 d.next,sv,pv,lv,.bool d.stops] 155)
 own:db≠bg/\base<=db/\base<=bg/\bg<w.heap.size/\base<=w.heap.size
 bnd:fO (D+1) l=true
 tells:l.map (cn (D+1))=d.b
 row:∀(i:Nat)(y:Tm (D+1)),l[i]?=some y->dy w bg (i*4) (D+1) y/\In w.heap.size w (D+1) y/\bV (JS base db bg sv pv lv) (D+1) y
 free:∀j,w.frozen? ⟨bg,j,none⟩=false
 sRow:w.ownsRow base 162 5 sv sd.length (sd.flatMap λz=>LJ z.1 z.2)
 pRow:w.ownsRow base 159 6 pv sp.length (sp.flatMap λz=>MM z.1 z.2.1 z.2.2)
 lRow:w.ownsRow base 3 1 lv d.links.length (d.links.map λu=> .int .i64 u)
 sIs:sd.map (λz=>(z.1,cn _ z.2))=d.sends
 pIs:sp.map (λz=>(z.1,z.2.1,cn _ z.2.2))=d.spawns
 sIn:∀z∈sd,bm _ z.2=0/\In w.heap.size w _ z.2/\bV (JS base db bg sv pv lv) _ z.2
 pIn:∀z∈sp,bm _ z.2.2=0/\In w.heap.size w _ z.2.2/\bV (JS base db bg sv pv lv) _ z.2.2
 apart:(sv.ownBlock≠some db/\pv.ownBlock≠some db/\lv.ownBlock≠some db)/\(sv.ownBlock≠some bg/\pv.ownBlock≠some bg/\lv.ownBlock≠some bg)/\∀q,(sv.ownBlock=some q->pv.ownBlock≠some q/\lv.ownBlock≠some q)/\(pv.ownBlock=some q->lv.ownBlock≠some q)
 few:sd.length<=k/\sp.length<=k/\d.links.length<=k/\d.next=nx+sp.length/\1<=nx/\nx<=92
def Do(base b:Nat)(self:Int)(n D k:Nat)(g:Int)(d:Dg)(S:Nat->Prop)(w0 w:World):Prop:=∃l a f h i e c lv,dR base b self n D k g d w l a f h i e c lv/\∀q,kI b a e c lv q->S q\/w0.heap.size<=q
theorem rz{base n:Nat}{x:Tm n}{S c:Nat->Prop}{w w':World}(k:bi S w w')(f:∀q,c q->S q\/w.heap.size<=q)(d:In w.heap.size w n x)(e:bV (λq=>base<=q/\¬S q) n x):In w'.heap.size w' n x/\bV (λq=>base<=q/\¬c q) n x:=by
 refine⟨d.kee k (e.mono λq a=>a.2),(In.offB e d).mono λq a=>⟨a.1.1,λb=>?_⟩⟩;rcases f q b with b|b
 ·exact a.1.2 b
 ·have:=a.2;omega
theorem Cu{w w':World}{n:Nat}{q:List (Tm n)}{a:Option Addr}(c:fe w.heap.size w n q a)(d:ag w w'):fe w'.heap.size w' n q a:=by
 rcases c.below d with c|⟨b,o,h,i,c⟩
 ·exact ae c
 ·exact af ⟨b,o,h,aJ i d.size,λf g e=>⟨(c f g e).1,(c f g e).2.mono d.size⟩⟩
section
variable {base db:Nat} {self:Int} {n D k:Nat} {nx:Int} {d:Dg} {w:World} {l:List (Tm (D+1))} {bg bc:Nat} {sd:List (Int×Tm (D+1+n+1))} {sp:List (Int×ByteArray×Tm (D+1+n+1))} {sv pv lv:Value}
theorem dR.lt(a:dR base db self n D k nx d w l bg bc sd sp sv pv lv):db<w.heap.size:=(aA.1 a.box).1
theorem dR.high(c:dR base db self n D k nx d w l bg bc sd sp sv pv lv):∀q,kI db bg sv pv lv q->base<=q:=by
 intro q a;obtain⟨_,i,j,_⟩:=c.own;have f:∀{b:TypeId}{r o:Nat}{g:Value}{p:List Value},w.ownsRow base b r g o p->g.ownBlock=some q->base<=q:=λm e=>by
  rcases m.2 with⟨b,_⟩|⟨h,cap,s,b,t,_⟩
  ·rw[b]at e;cases e
  ·rw[b]at e;have:h=q:=aq e;omega
 rcases a with rfl|rfl|a|a|a
 ·exact i
 ·exact j
 ·exact f c.sRow a
 ·exact f c.pRow a
 ·exact f c.lRow a
theorem dR.later(a:dR base db self n D k nx d w l bg bc sd sp sv pv lv){w':World}(e:ag w w'):dR base db self n D k nx d w' l bg bc sd sp sv pv lv:=by
 have h:=aE e (λ_=>False);have i:=e.size;obtain⟨t,u,v,q,y⟩:=a.own;refine⟨(e.block db a.lt).trans a.box,⟨t,u,v,by omega,by omega⟩,a.bnd,a.tells,λs x r=>?_,λo=>?_,aW a.sRow h λ_ _ g=>g,aW a.pRow h λ_ _ g=>g,aW a.lRow h λ_ _ g=>g,a.sIs,a.pIs,λm j=>?_,λm j=>?_,a.apart,a.few⟩
 ·obtain⟨f,b,c⟩:=a.row s x r;exact⟨f.below e q,(b.below e).mono i,c⟩
 ·exact(e.frozen (p:=⟨bg,o,none⟩) q).trans (a.free o)
 ·obtain⟨f,b,c⟩:=a.sIn m j;exact⟨f,(b.below e).mono i,c⟩
 ·obtain⟨f,b,c⟩:=a.pIn m j;exact⟨f,(b.below e).mono i,c⟩
theorem dR.more(a:dR base db self n D k nx d w l bg bc sd sp sv pv lv){e:Nat}(i:k<=e):dR base db self n D e nx d w l bg bc sd sp sv pv lv:=by
 obtain⟨h,b,c,g,f⟩:=a.few;exact{a with few:=⟨by omega,by omega,by omega,g,f⟩}
theorem dR.lies(a:dR base db self n D k nx d w l bg bc sd sp sv pv lv):fe w.heap.size w (D+1) l (some ⟨bg,0,none⟩):=af ⟨bg,0,rfl,a.own.2.2.2.1,λi y b=>by
 rw[cN]
 exact⟨(a.row i y b).1,(a.row i y b).2.1⟩⟩
theorem dR.value(a:dR base db self n D k nx d w l bg bc sd sp sv pv lv)(x:Tm (n+1))(r:In base w (n+1) x)(g:bm (n+1) x=0)(o:1<=self/\self<=99):∀W,ag w W->ah 103 #[.pointer (some ⟨db,0,none⟩),.agg #[.int .i64 x.1.1,.int .i64 x.1.2.1,.string x.1.2.2,.slice x.2.1.1 x.2.2.length x.2.1.2]] W (vB (D+1+n) (nb 0 (vl (D+1) l self (n+1) x)) W):=by
 intro W b;have i:Ej (bm (n+1) x) (fO (D+1) l) self=0:=by simp[Ej,g,a.bnd,o]
 have f:=(gK a.bnd).1;have m:=a.lies;have h:=a.own.2.2.2.2;have q:=xG (D+1+n) 0 (vl (D+1) l self (n+1) x) x.1.1 x.1.2.1 x.1.2.2 x.2.1.1 x.2.2.length x.2.1.2 (some ⟨bg,0,none⟩) bc self db W (aJ a.lt b.size) ((b.cell (p:=⟨db,0,none⟩) a.lt).trans (ab a.box 0)) ((b.cell (p:=⟨db,1,none⟩) a.lt).trans (ab a.box 1)) λe j=>by
  have c:=b.trans (j.mono b.size);have:=CX n (D+1) x l (some ⟨bg,0,none⟩) bc e.heap.size self e ((r.below (c.mono h)).mono (aw h c.size)) (Cu m c) (ai _) (eH g) (by rw[f];decide) (λt s=>eH ((gK a.bnd).2 t s).1);rw[i,f]at this;exact this
 exact q
theorem dR.process(i:dR base db self n D k nx d w l bg bc sd sp sv pv lv)(x:Tm (n+1))(z:In base w (n+1) x)(m:bm (n+1) x=0)(u:1<=self/\self<=99):∀W,ag w W->ah 174 #[.pointer (some ⟨db,0,none⟩),.agg #[.int .i64 x.1.1,.int .i64 x.1.2.1,.string x.1.2.2,.slice x.2.1.1 x.2.2.length x.2.1.2]] W λe w'=>∃g,e=.returned (.tuple #[.int .i64 g,.bool (mF d.b self (n+1) x).isSome])/\Hid (ag W w'/\∀v,mF d.b self (n+1) x=some v->g=v):=by
 intro W j;have a:=JF i.bnd i.tells self x m;refine(zJ (D+1+n) _ x.1.1 x.1.2.1 x.1.2.2 x.2.1.1 x.2.2.length x.2.1.2 db W λs t=>i.value x z m u s (j.trans (t.mono j.size))).mono ?_;rintro e w' ⟨g,rfl,p⟩;obtain⟨q,r⟩:=p.out;have o:D0 (nb 0 (vl (D+1) l self (n+1) x))=(mF d.b self (n+1) x).isSome/\∀v,mF d.b self (n+1) x=some v->g=v:=by
  unfold mF;rw[<-a];cases e:nb 0 (vl (D+1) l self (n+1) x)with
  | none=>exact⟨rfl,λv a=>by cases a⟩
  | some c=>
   have A:(cn (D+1+n+1) c).1=c.1:=rfl;have y:=r c e;simp only[Option.map_some,dl,D0];by_cases h:c.1.1=3
   ·have f:(cn (D+1+n+1) c).1.1=3:=h;refine⟨?_,λv a=>?_⟩
    ·erw [if_pos f]
     simp[h]
    ·erw [if_pos f]at a
     rw[y,<-aq a];rfl
   ·have f:¬(cn (D+1+n+1) c).1.1=3:=h;refine⟨?_,λv a=>?_⟩
    ·erw [if_neg f]
     simp[h]
    ·erw [if_neg f]at a
     cases a
 exact⟨g,by rw[o.1],q,o.2⟩
end
section
variable {base db:Nat} {self:Int} {n D k:Nat} {nx:Int} {d:Dg} {w:World} {l:List (Tm (D+1))} {bg bc:Nat} {sd:List (Int×Tm (D+1+n+1))} {sp:List (Int×ByteArray×Tm (D+1+n+1))} {sv pv lv:Value}
def xg(base db:Nat)(self:Int)(n D k:Nat)(nx:Int)(d:Dg)(a:Ac (n+1))(S:Nat->Prop)(w:World)(t:Bool)(w':World):Prop:=
 bi S w w'/\t=(qp self a d).isSome/\∀b,qp self a d=some b->Do base db self n D (k+1) nx b S w w'
theorem lQ{w:World}{base:Nat}{e:TypeId}{g m:Nat}{v:Value}{xs:List Value}(f:w.ownsRow base e g v m xs):∃a c,v=.slice a m c:=by
 rcases f.2 with⟨b,d⟩|⟨i,cap,h,b,_⟩
 ·exact⟨none,0,by rw[b,d]⟩
 ·exact⟨_,cap,b⟩
theorem nF{w:World}{b:Nat}{v0 v1 v2 v3 a c d:Value}{t:TypeId}(e:w.heap[b]?=some (.cells #[v0,v1,v2,v3,a,c,d] t)):(∀v,(w.setCell ⟨b,3,none⟩ v).heap[b]?=some (.cells #[v0,v1,v2,v,a,c,d] t))/\(∀v,(w.setCell ⟨b,4,none⟩ v).heap[b]?=some (.cells #[v0,v1,v2,v3,v,c,d] t))/\(∀v,(w.setCell ⟨b,5,none⟩ v).heap[b]?=some (.cells #[v0,v1,v2,v3,a,v,d] t))/\(∀v,(w.setCell ⟨b,2,none⟩ v).heap[b]?=some (.cells #[v0,v1,v,v3,a,c,d] t))/\∀v,(w.setCell ⟨b,6,none⟩ v).heap[b]?=some (.cells #[v0,v1,v2,v3,a,c,v] t):=by
 refine⟨λv=>?_,λv=>?_,λv=>?_,λv=>?_,λv=>?_⟩<;>
 ·unfold World.setCell;simp[bC,e]
theorem sX{w:World}{b:Nat}{cs:Array Value}{t:TypeId}(a:w.heap[b]?=some (.cells cs t))(j:Nat):w.frozen? ⟨b,j,none⟩=false:=by simp[World.frozen?,a]
theorem dR.frame(c:dR base db self n D k nx d w l bg bc sd sp sv pv lv){w':World}{j h g:Value}(f:bi (kI db bg sv pv lv) w w')(m:∀q,kI db bg j h g q->kI db bg sv pv lv q\/w.heap.size<=q):(∀(i:Nat)(y:Tm (D+1)),l[i]?=some y->In w'.heap.size w' (D+1) y/\bV (JS base db bg j h g) (D+1) y)/\(∀a∈sd,bm _ a.2=0/\In w'.heap.size w' _ a.2/\bV (JS base db bg j h g) _ a.2)/\(∀a∈sp,bm _ a.2.2=0/\In w'.heap.size w' _ a.2.2/\bV (JS base db bg j h g) _ a.2.2)/\Below base w w':=
 ⟨λi y o=>rz f m (c.row i y o).2.1 (c.row i y o).2.2,λa e=>⟨(c.sIn a e).1,rz f m (c.sIn a e).2.1 (c.sIn a e).2.2⟩,λa e=>⟨(c.pIn a e).1,rz f m (c.pIn a e).2.1 (c.pIn a e).2.2⟩,f.below c.own.2.2.2.2 λb p q=>by
  have:=c.high b q
  omega⟩
theorem dR.link(g:dR base db self n D k nx d w l bg bc sd sp sv pv lv)(a:Ac (n+1))(Q:gZ (n+1) base w a)(U:bm (n+1) a.2.1.1=0)(P:a.1=3)(Z:1<=self/\self<=99)(ar:k<=1000):ah 163 #[.pointer (some ⟨db,0,none⟩),M0 a] w λe w'=>∃t,e=.returned (.bool t)/\Hid (xg base db self n D k nx d a (kI db bg sv pv lv) w t w'):=by
 have J:=g.lRow;obtain⟨r,s,rfl⟩:=lQ J;obtain⟨an,ao,ap,O⟩:=g.few;have u:qp self a d=(mF d.b self (n+1) a.2.1.1).map λx=>{d with links:=d.links++ [x]}:=by
  simp[qp,P]
 refine(Fp a.1 a.2.1.1.1.1 a.2.1.1.1.2.1 a.2.1.1.1.2.2 a.2.1.1.2.1.1 a.2.1.1.2.2.length a.2.1.1.2.1.2 a.2.1.2.1.1 a.2.1.2.1.2.1 a.2.1.2.1.2.2 a.2.1.2.2.1.1 a.2.1.2.2.2.length a.2.1.2.2.1.2 a.2.2.1 a.2.2.2 base db r d.links.length s _ w (mF d.b self (n+1) a.2.1.1).isSome (λx=>∀y,mF d.b self (n+1) a.2.1.1=some y->x=y) (by omega) g.lt g.own.2.2.2.2 ⟨ab g.box 5,sX g.box 5⟩ J g.apart.1.2.2 (g.process a.2.1.1 Q.2.1 U Z)).mono ?_;rintro e w' ⟨rfl,V,v⟩;refine⟨_,rfl,?_⟩;cases hp:mF d.b self (n+1) a.2.1.1 with
 | none=>
  have R:=V (by rw[hp];rfl);refine⟨aE R _,by rw[u,hp];rfl,λN o=>?_⟩;rw[u,hp]at o;cases o
 | some y=>
  obtain⟨x,m,c,z,ad,Y,j,i,rfl⟩:=v (by rw[hp];rfl);obtain rfl:=ad y hp;have T:z.heap[db]?=_:=(j.block db g.lt λf=>g.apart.1.2.2 f).trans g.box;have C:bi (kI db bg sv pv (.slice r d.links.length s)) w (z.setCell ⟨db,5,none⟩ (.slice (some ⟨m,0,none⟩) (d.links.length+1) c)):=bi.trans (j.mono λf _ h=>af (af (af (af h)))) (bt _ _ _ _) λf _ h=>ae h;have p:∀f,f<w.heap.size->¬(Value.slice r d.links.length s).ownBlock=some f->m≠f:=λf h W e=>by
   rcases i with i|i
   ·rw[e]at i;exact W i
   ·omega
  have H:∀f,kI db bg sv pv (.slice (some ⟨m,0,none⟩) (d.links.length+1) c) f->kI db bg sv pv (.slice r d.links.length s) f\/w.heap.size<=f:=λf h=>by
   rcases h with h|h|h|h|h
   ·exact ae (ae h)
   ·exact ae (af (ae h))
   ·exact ae (af (af (ae h)))
   ·exact ae (af (af (af (ae h))))
   ·have:m=f:=aq h;subst this;rcases i with i|i
    ·exact ae (af (af (af (af i))))
    ·exact af i
  obtain⟨ak,al,am,aw⟩:=g.frame C H;refine⟨C,by rw[u,hp];rfl,λN o=>?_⟩;rw[u,hp]at o;obtain rfl:=aq o;have au:=C.size;obtain⟨F,ai,aj,G,av⟩:=g.own;have q:=bt z db 5 (.slice (some ⟨m,0,none⟩) (d.links.length+1) c);have aa:∀f,sv.ownBlock=some f->f<w.heap.size:=λf h=>by
   obtain⟨M,B⟩:=dQ g.sRow f h;exact(aA.1 B).1
  have X:∀f,pv.ownBlock=some f->f<w.heap.size:=λf h=>by
   obtain⟨M,B⟩:=dQ g.pRow f h;exact(aA.1 B).1
  have A:¬(Value.slice r d.links.length s).ownBlock=some bg:=g.apart.2.1.2.2;refine⟨l,bg,bc,sd,sp,sv,pv,_,⟨(nF T).2.2.1 _,⟨F,ai,aj,by omega,by omega⟩,g.bnd,g.tells,λK L v=>⟨?_,ak K L v⟩,λag=>?_,?_,?_,?_,g.sIs,g.pIs,al,am,⟨⟨g.apart.1.1,g.apart.1.2.1,?_⟩,⟨g.apart.2.1.1,g.apart.2.1.2.1,?_⟩,λf=>⟨λh=>⟨((g.apart.2.2 f).1 h).1,?_⟩,λh=>?_⟩⟩,⟨by omega,by omega,by simp;omega,O⟩⟩,H⟩
  ·exact((g.row K L v).1.kee j G A).kee q (by have:=j.size;omega) (λe=>F e.symm)
  ·have S:(z.setCell ⟨db,5,none⟩ (.slice (some ⟨m,0,none⟩) (d.links.length+1) c)).heap[bg]?=w.heap[bg]? :=(q.block bg (by have:=j.size;omega) (λe=>F e.symm)).trans (j.block bg G A);have I:=g.free ag;unfold World.frozen? at I ⊢;rw[S];exact I
  ·exact aW (aW g.sRow j λf h E=>((g.apart.2.2 f).1 h).2 E) q λf h e=>g.apart.1.1 (by rw[h,e])
  ·exact aW (aW g.pRow j λf h E=>(g.apart.2.2 f).2 h E) q λf h e=>g.apart.1.2.1 (by rw[h,e])
  ·have:=aW Y q λf h e=>p db g.lt g.apart.1.2.2 (by
     have:m=f:=aq h
     rw[this,e])
   simpa using this
  ·exact λe=>p db g.lt g.apart.1.2.2 (aq e)
  ·exact λe=>p bg G A (aq e)
  ·exact λe=>p f (aa f h) (((g.apart.2.2 f).1 h).2) (aq e)
  ·exact λe=>p f (X f h) ((g.apart.2.2 f).2 h) (aq e)
end
end Go.Proofs.YtckamaoibonjcaaGreat
