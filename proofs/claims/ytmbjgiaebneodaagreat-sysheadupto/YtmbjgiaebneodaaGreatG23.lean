/- What is proved here: plain facts and contracts that the claimed theorem stands on. No condition but those that each names. -/
import Derived.Test.YtmbjgiaebneodaaGreatG22
namespace Go.Proofs.YtmbjgiaebneodaaGreat
open Go.RowKit
set_option maxRecDepth 100000
set_option maxHeartbeats 2000000
def rW(w:World)(c:Nat)(a b:Int):World:=(w.setCell ⟨c,5,none⟩ (.int .i64 a)).setCell ⟨c,6,none⟩ (.int .i64 b)
def Lm(b d e:Nat)(g t1:Int)(t2:ByteArray)(h:Option Addr)(j i:Nat)(s0 s1:Int)(f:ByteArray)(sa:Option Addr)(sl sc:Nat)(W:World):Prop:=
 W.heap[d]?=some (.cells #[.int .i64 g,.int .i64 t1,.string t2,.slice h j i] 30)/\W.heap[e]?=some (.cells #[.int .i64 s0,.int .i64 s1,.string f,.slice sa sl sc] 30)/\(∃a,W.cell? ⟨b,5,none⟩=some (.int .i64 a))/\(∃a,W.cell? ⟨b,6,none⟩=some (.int .i64 a))/\∀c,W.frozen? ⟨b,c,none⟩=false
theorem xB(m t1:Int)(t2:ByteArray)(n:Option Addr)(q o:Nat)(c:Nat)(w:World)(S:Int->Int->ByteArray->Option Addr->Nat->Nat->World->Prop)(P1:World->Wd->Int->World->Prop)(R:Bool->World->Prop)(aF:Hid (∀W,Below w.heap.size w W->Calls Tryz.prog 31 #[.pointer (some ⟨c,0,none⟩)] W λe w'=>∃s0 s1 h sa sl sc,e=.returned (.agg #[.int .i64 s0,.int .i64 s1,.string h,.slice sa sl sc])/\Hid (Below W.heap.size W w'/\S s0 s1 h sa sl sc w')))(az:Hid (∀W,Below w.heap.size w W->(∃a,W.cell? ⟨c,5,none⟩=some (.int .i64 a))/\(∃a,W.cell? ⟨c,6,none⟩=some (.int .i64 a))/\(∀j,W.frozen? ⟨c,j,none⟩=false)/\c<w.heap.size))(aD:Hid (∀s0 s1 h sa sl sc al I g i,S s0 s1 h sa sl sc al->Below al.heap.size al I->Below w.heap.size w I->w.heap.size<=g->w.heap.size<=i->Lm c g i m t1 t2 n q o s0 s1 h sa sl sc (rW I c 1 0)->Calls Tryz.prog 89 #[.pointer (some ⟨c,0,none⟩),.agg #[.int .i64 m,.int .i64 t1,.string t2,.slice n q o]] (rW I c 1 0) λe w'=>∃(v:Wd)(s:Int),e=.returned (.tuple #[.agg #[.int .i64 v.1,.int .i64 v.2],.int .i64 s])/\Hid (Lm c g i m t1 t2 n q o s0 s1 h sa sl sc w'/\P1 I v s w'/\ (s=0->∀W,Below w'.heap.size w' W->R true (rW W c v.1 v.2))/\ (s≠0->∀W d,Below w'.heap.size w' W->w'.heap.size<=d->d<W.heap.size->Calls Tryz.prog 89 #[.pointer (some ⟨c,0,none⟩),.agg #[.int .i64 s0,.int .i64 s1,.string h,.slice sa sl sc]] W λe M=>∃(v2:Wd)(aM:Int),e=.returned (.tuple #[.agg #[.int .i64 v2.1,.int .i64 v2.2],.int .i64 aM])/\Hid ((∀a1,W.heap[d]?=some a1->M.heap[d]?=some a1)/\((∃a,M.cell? ⟨c,5,none⟩=some (.int .i64 a))/\(∃a,M.cell? ⟨c,6,none⟩=some (.int .i64 a))/\∀j,M.frozen? ⟨c,j,none⟩=false)/\∀aL,bi (λb=>b=d) M aL->R false (rW aL c v2.1 v2.2)))))):Calls Tryz.prog 84 #[.pointer (some ⟨c,0,none⟩),.agg #[.int .i64 m,.int .i64 t1,.string t2,.slice n q o]] w λe w'=>∃t,e=.returned (.bool t)/\Hid (R t w'):=by
 have aH:Hid (∃aa l,(aa=w.alloc (.cells #[.int .i64 m,.int .i64 t1,.string t2,.slice n q o] 30)/\l=w.heap.size)/\Below w.heap.size w aa/\aa.heap[l]?=some (.cells #[.int .i64 m,.int .i64 t1,.string t2,.slice n q o] 30)/\w.heap.size<=l):=⟨_,_,⟨rfl,rfl⟩,(ah _ _).alloc (ag _) _,ay _ _,ag _⟩;go_enter Tryz.func84,Tryz.ntmps84;go_wp2_with fail;obtain⟨aa,g,⟨aX,aW⟩,aO,K,aT⟩:=aH.out;rw[<-aX,<-aW];have ad:=ai aO;have y:=ai K;have aA:=ai aT;clear aX aW aO K aT aH;refine(aF.out _ ad.out).mono ?_;rintro e N ⟨s0,s1,h,sa,sl,sc,rfl,O⟩;have Q:=ai (ad.out.trans (O.out.1.mono ad.out.size));have aI:Hid (∃k l,(k=N.alloc (.cells #[.int .i64 s0,.int .i64 s1,.string h,.slice sa sl sc] 30)/\l=N.heap.size)/\Below N.heap.size N k/\k.heap[l]?=some (.cells #[.int .i64 s0,.int .i64 s1,.string h,.slice sa sl sc] 30)/\w.heap.size<=l/\k.heap[g]?=some (.cells #[.int .i64 m,.int .i64 t1,.string t2,.slice n q o] 30)):=by
  have a9:=(aE.1 y.out).1;have aN:=(O.out.1.block g a9).trans y.out;exact⟨_,_,⟨rfl,rfl⟩,(ah _ _).alloc (ag _) _,ay _ _,Q.out.size,(((ah _ _).alloc (ag _) _).block g (aE.1 aN).1).trans aN⟩
 have aG:=ai O.out.2;clear O aF y;go_upto_region 2 with fail;obtain⟨k,i,⟨aY,u⟩,ar,aQ,aU,K⟩:=aI.out;rw[<-aY,<-u];have af:=ai (Q.out.trans (ar.mono Q.out.size));have ax:=ai ar;have ak:=ai aQ;have y:=ai K;have aB:=ai aU;clear aY u ar aQ aU K aI;obtain⟨⟨bg,a4⟩,⟨bh,a5⟩,V,bm⟩:=az.out k af.out;have am:=V 5;have an:=V 6;have x:Hid (Lm c g i m t1 t2 n q o s0 s1 h sa sl sc (rW k c 1 0)):=by
  have aS:bi (λb=>b=c) k (rW k c 1 0):=bi.trans (bH k c 5 _) (bH _ c 6 _) λ_ _ e=>e;refine⟨(aS.block g (aE.1 y.out).1 (by have:=aA.out;omega)).trans y.out,(aS.block i (aE.1 ak.out).1 (by have:=aB.out;omega)).trans ak.out,⟨1,?_⟩,⟨0,?_⟩,λj=>?_⟩
  ·exact(dh 5 (by decide)).trans (iL _ _ _ a4)
  ·exact iL _ _ _ ((dh 6 (by decide)).trans a5)
  ·unfold rW;rw[fH,fH];exact V j
 have aj:=ai (aD.out s0 s1 h sa sl sc N k g i aG.out ax.out af.out aA.out aB.out x.out);clear aD V az;go_upto_region 3 with fail;obtain⟨G,Y⟩:∃G,G=rW k c 1 0:=⟨_,rfl⟩;rw[<-Y]at aj x;unfold rW at Y;rw[<-Y];have bc:G.cell? ⟨g,0,none⟩=some (.int .i64 m):=ab x.out.1 0;have bd:G.cell? ⟨g,1,none⟩=some (.int .i64 t1):=ab x.out.1 1;have be:G.cell? ⟨g,2,none⟩=some (.string t2):=ab x.out.1 2;have bf:G.cell? ⟨g,3,none⟩=some (.slice n q o):=ab x.out.1 3;clear Y a4 a5 am an y ak af ax Q aG x;go_wp2_with fail;refine aj.out.mono ?_;rintro e B ⟨v,s,rfl,r⟩;have aJ:Hid (∃f l,(f=B.alloc (.cells #[.int .i64 v.1,.int .i64 v.2] 119)/\l=B.heap.size)/\Below B.heap.size B f/\f.heap[l]?=some (.cells #[.int .i64 v.1,.int .i64 v.2] 119)/\B.heap.size<=l):=⟨_,_,⟨rfl,rfl⟩,(ah _ _).alloc (ag _) _,ay _ _,ag _⟩;go_upto_region 4 with fail;obtain⟨f,d,⟨aZ,A⟩,aP,aR,aV⟩:=aJ.out;rw[<-aZ,<-A];have E:=ai aP;have U:=ai aR;have aC:=ai aV;clear aZ A aP aR aV aJ bc bd be bf aj;have T:Hid (c<B.heap.size):=by
  obtain⟨a,aq⟩:=r.out.1.2.2.1;exact lw B ⟨c,5,none⟩ aq
 have a6:Hid ((∃a,f.cell? ⟨c,5,none⟩=some (.int .i64 a))/\(∃a,f.cell? ⟨c,6,none⟩=some (.int .i64 a))/\∀j,f.frozen? ⟨c,j,none⟩=false):=by
  obtain⟨_,_,⟨a,aq⟩,⟨b,a8⟩,z⟩:=r.out.1;refine⟨⟨a,(E.out.cell (p:=⟨c,5,none⟩) T.out).trans aq⟩,⟨b,(E.out.cell (p:=⟨c,6,none⟩) T.out).trans a8⟩,λj=>?_⟩;have z:=z j;unfold World.frozen? at z ⊢;rw[E.out.block c T.out];exact z
 have bj:f.cell? ⟨d,0,none⟩=some (.int .i64 v.1):=ab U.out 0;have bk:f.cell? ⟨d,1,none⟩=some (.int .i64 v.2):=ab U.out 1;by_cases J:s=0
 ·have H:=ai (r.out.2.2.1 J f E.out);unfold rW at H;obtain⟨⟨a,Z⟩,⟨b,av⟩,F⟩:=a6.out;have am:=F 5;have an:=F 6;clear F r;subst J;go_wp2_with fail
  go_ret
  exact⟨true,rfl,H.out⟩
 ·have bl:¬(0:Int)=s:=λe=>J e.symm;have a7:=ai (r.out.2.2.2 J f d E.out aC.out (aE.1 U.out).1);have u:=(E.out.block i (aE.1 r.out.1.2.1).1).trans r.out.1.2.1;have bp:f.cell? ⟨i,0,none⟩=some (.int .i64 s0):=ab u 0;have bq:f.cell? ⟨i,1,none⟩=some (.int .i64 s1):=ab u 1;have br:f.cell? ⟨i,2,none⟩=some (.string h):=ab u 2;have bs:f.cell? ⟨i,3,none⟩=some (.slice sa sl sc):=ab u 3;clear u r;go_wp2_with fail;refine a7.out.mono ?_;rintro e C ⟨v2,aM,rfl,P⟩;have A:=P.out.1 _ U.out;have a2:C.cell? ⟨d,0,none⟩=some (.int .i64 v.1):=ab A 0;have a3:C.cell? ⟨d,1,none⟩=some (.int .i64 v.2):=ab A 1;have aw:∀j,C.frozen? ⟨d,j,none⟩=false:=λj=>by simp[World.frozen?,A]
  have ba:=aw 0;have bb:=aw 1;have aK:Hid (∃D,D=(C.setCell ⟨d,0,none⟩ (.int .i64 v2.1)).setCell ⟨d,1,none⟩ (.int .i64 v2.2)/\(D.cell? ⟨d,0,none⟩=some (.int .i64 v2.1)/\D.cell? ⟨d,1,none⟩=some (.int .i64 v2.2))/\bi (λb=>b=d) C D):=by
   refine⟨_,rfl,⟨?_,?_⟩,bi.trans (bH C d 0 _) (bH _ d 1 _) λ_ _ e=>e⟩
   ·exact(dh 0 (by decide)).trans (iL _ _ _ a2)
   ·exact iL _ _ _ ((dh 1 (by decide)).trans a3)
  clear aw A;go_upto_region 6 with fail;obtain⟨D,a0,⟨y0,y1⟩,L⟩:=aK.out;rw[<-a0];have H:=ai (P.out.2.2 D L);unfold rW at H;obtain⟨⟨a,Z⟩,⟨b,av⟩,F⟩:=P.out.2.1;have X:=lw C ⟨c,5,none⟩ Z;have au:c≠d:=by have:=T.out;have:=aC.out;omega
  have bn:=(L.cell 5 X au).trans Z;have bo:=(L.cell 6 X au).trans av;have ap:∀j,D.frozen? ⟨c,j,none⟩=false:=λj=>by
   have z:=F j;unfold World.frozen? at z ⊢;rw[L.block c X au];exact z
  have am:=ap 5;have an:=ap 6;clear a0 aK L Z av F ap P a2 a3 ba bb X;go_wp2_with fail;exact ao (v:=.bool (s==0)) (by simp[results,Tryz.results84,go_sem]) rfl (ae ⟨bE (by simpa using J),H.out⟩)
def jX(n m:Nat):Option (Tm n)->Option (Tm m)->Prop
 | none,none=>True
 | some x,some y=>aw n x m y=true
 | _,_=>False
theorem tE{n m k l:Nat}{o:Option (Tm n)}{p:Option (Tm m)}{f:Tm n->Option (Tm k)}{g:Tm m->Option (Tm l)}(a:jX n m o p)(b:∀x y,aw n x m y=true->jX k l (f x) (g y)):jX k l (o.bind f) (p.bind g):=by
 cases o with
 | none=>
  cases p with
  | none=>trivial
  | some _=>exact a.elim
 | some x=>
  cases p with
  | none=>exact a.elim
  | some y=>exact b x y a
theorem oC{n m N M:Nat}(c:n<=N)(b:m<=M){x:Tm n}{y:Tm m}(d:aA ⟨n,x⟩)(e:aA ⟨m,y⟩)(a:aw n x m y=true):aw N (aH N n x) M (aH M m y)=true:=
 bJ _ _ _ _ _ _ (fP N n c x d) (bJ _ _ _ _ _ _ a (dD _ _ _ _ (fP M m b y e)))
theorem oy:(n:Nat)->(x:Tm n)->(m:Nat)->(y:Tm m)->aw n x m y=true->bD ⟨n,x⟩=bD ⟨m,y⟩/\nT n x=nT m y
 | 0,_,_,_,h=>by simp[aw]at h
 | _+1,_,0,_,h=>by simp[aw]at h
 | n+1,x,m+1,y,h=>by
  simp only[aw,aB,cr]at h;exact⟨h.1.1.1,h.1.1.2⟩
theorem Ed{N M:Nat}{a c:Tm N}{b d:Tm M}(h:aw N a M b=true)(i:aw N c M d=true):jX (N+1) (M+1) (rJ N a c) (rJ M b d):=by
 have e:=oy _ _ _ _ h;have f:=oy _ _ _ _ i;have g:wT N a c=wT M b d:=by
  unfold wT;rw[e.1,e.2,f.1,f.2]
 unfold rJ;rw[<-g,<-e.2,<-f.2];cases wT N a c
 ·simp[jX]
 ·simp[jX,aw,aS,av]
theorem sh{i:Type}{N M:Nat}(f:i->Option (Tm N))(g:i->Option (Tm M)):(p:List i)->(∀a∈p,jX N M (f a) (g a))->jX (N+1) (M+1) ((cB f p).map (cI N)) ((cB g p).map (cI M))/\((cB f p=none/\cB g p=none)\/∃l r,cB f p=some l/\cB g p=some r/\av (λx y=>aw N x M y) l r=true)
 | [],_=>⟨by simp[cB,jX,aw,cI,av],af ⟨[],[],rfl,rfl,rfl⟩⟩
 | a::p,h=>by
  have b:=h a (by simp);have m:=(sh f g p λx n=>h x (by simp[n])).2;simp only[cB];cases e1:f a with
  | none=>
   rw[e1]at b;cases c:g a with
   | none=>simp[jX]
   | some _=>rw[c]at b;exact b.elim
  | some u=>
   rw[e1]at b;cases c:g a with
   | none=>rw[c]at b;exact b.elim
   | some v=>
    rw[c]at b;have j:aw N u M v=true:=b;rcases m with⟨d,e⟩|⟨l,r,d,e,k⟩
    ·rw[d,e];simp[jX]
    ·rw[d,e];exact⟨by simp[jX,aw,cI,av,j,k],af ⟨u::l,v::r,rfl,rfl,by simp[av,j,k]⟩⟩
theorem pV(m:Nat)(b:List (Tm m))(f:Nat)(a:List (Tm f))(self:Int)(i:av (λx y=>aw m x f y) b a=true)(p:∀y∈b,aA ⟨m,y⟩)(q:∀y∈a,aA ⟨f,y⟩):(n:Nat)->(x:Tm n)->aA ⟨n,x⟩->jX (m+n) (f+n) (vl m b self n x) (vl f a self n x)
 | 0,_,_=>trivial
 | n+1,x,hx=>by
  have z:=cS _ _ _ i;have w:aw (n+1) x (n+1) x=true:=fS _ _ hx;unfold vl;by_cases k:x.1.1=5
  ·rw[if_pos k,if_pos k];cases e:b[x.1.2.1.toNat]? with
   | none=>
    have g:a[x.1.2.1.toNat]?=none:=by
     rw[List.getElem?_eq_none_iff]at e ⊢;omega
    rw[g];trivial
   | some y=>
    obtain⟨u,_⟩:=aK.1 e;have g:a[x.1.2.1.toNat]?=some a[x.1.2.1.toNat]:=az (by omega);rw[g];have s:aw m y f a[x.1.2.1.toNat]=true:=jV _ _ _ i _ _ _ e g;simp only[dr];rw[<-(oy _ _ _ _ s).1];by_cases d:bD ⟨m,y⟩=6
    ·rw[if_pos d,if_pos d];trivial
    ·rw[if_neg d,if_neg d];exact oC (by omega) (by omega) (p y (ax e)) (q _ (ax g)) s
  ·rw[if_neg k,if_neg k];by_cases d:x.1.1=6
   ·rw[if_pos d,if_pos d];trivial
   ·rw[if_neg d,if_neg d];by_cases j:x.1.1=4
    ·rw[if_pos j,if_pos j];by_cases r:qY n x.2.2 mS 0=true
     ·rw[if_pos r,if_pos r];simp[jX,aw,aS,av]
     ·rw[if_neg r,if_neg r];by_cases l:qY n x.2.2 qI 2=true
      ·rw[if_pos l,if_pos l];cases e1:x.2.2[1]? with
       | none=>trivial
       | some h=>
        cases g:x.2.2[2]? with
        | none=>trivial
        | some c=>
         simp only[dr];exact tE (pV m b f a self i p q n h (aU n x h hx (ax e1))) λA C u=>tE (pV m b f a self i p q n c (aU n x c hx (ax g))) λB D v=>Ed u v
      ·rw[if_neg l,if_neg l];by_cases o:qY n x.2.2 qJ 1=true
       ·rw[if_pos o,if_pos o];cases e1:x.2.2[1]? with
        | none=>trivial
        | some h=>
         have t:=aU n x h hx (ax e1);simp only[dr];cases aF n h
         ·simp[jX]
         ·exact oC (by omega) (by omega) t t (fS _ _ t)
       ·rw[if_neg o,if_neg o];exact(sh _ _ x.2.2 λy s=>pV m b f a self i p q n y (aU n x y hx s)).1
    ·rw[if_neg j,if_neg j];exact oC (by omega) (by omega) hx hx w
def G8:(D:Nat)->(n:Nat)->Tm n->Tm D
 | 0,_,_=>()
 | _+1,0,_=>((0,0,.empty),(none,0),[])
 | D+1,n+1,x=>(x.1,(none,0),x.2.2.map λy=>G8 D n y)
theorem EY:(D:Nat)->(n:Nat)->(x:Tm n)->(m:Nat)->(y:Tm m)->aw n x m y=true->G8 D n x=G8 D m y
 | 0,_,_,_,_,_=>rfl
 | D+1,0,_,_,_,h=>by simp[aw]at h
 | D+1,n+1,_,0,_,h=>by simp[aw]at h
 | D+1,n+1,x,m+1,y,h=>by
  obtain⟨c,d⟩:=bq h;have e:=ju _ (λa=>G8 D n a) (λb=>G8 D m b) _ _ (λa _ b f=>EY D n a m b f) d;simp only[G8,c,e];rfl
theorem xV{n:Nat}:(l:List (Tm n))->(m:Int)->m<=l.foldl (λm y=>max m (eQ n y)) m/\∀y∈l,eQ n y<=l.foldl (λm y=>max m (eQ n y)) m
 | [],m=>⟨j8 _,λy b=>by simp at b⟩
 | a::l,m=>by
  obtain⟨d,c⟩:=xV l (max m (eQ n a));simp only[iF];refine⟨by omega,λy b=>?_⟩;rcases bF.1 b with rfl|b
  ·omega
  ·exact c y b
theorem mz{n:Nat}{x:Tm (n+1)}(e:aA ⟨n+1,x⟩){y:Tm n}(c:y∈x.2.2):eQ n y+1<=eQ (n+1) x:=by
 have d:x.1.1=4:=by
  have b:=e _ (lj ..);simp only[bQ,aB,gt,cr,nD,decide_eq_false_iff_not]at b;rcases b.2 with a|a
  ·exact a
  ·have:=List.length_pos_of_mem c;omega
 have:=(xV x.2.2 0).2 y c;simp only[eQ,if_pos d];omega
theorem xE:(D:Nat)->(n:Nat)->(x:Tm n)->aA ⟨n,x⟩->eQ n x<D->aw D (G8 D n x) n x=true
 | _,0,_,h,_=>(cU h).elim
 | 0,n+1,x,_,h=>by
  have:=(fq (n+1) x).1;omega
 | D+1,n+1,x,hr,h=>bS rfl (gS _ _ _ λy a=>xE D n y (aU n x y hr a) (by
  have:=mz hr a
  omega))
theorem io:(D:Nat)->(n:Nat)->(x:Tm n)->aA ⟨n,x⟩->eQ n x<D->aw D (aH D n x) n x=true
 | _,0,_,h,_=>(cU h).elim
 | 0,n+1,x,_,h=>by
  have:=(fq (n+1) x).1;omega
 | D+1,n+1,x,hr,h=>bS rfl (gS _ _ _ λy a=>io D n y (aU n x y hr a) (by
  have:=mz hr a
  omega))
theorem FK(D n:Nat)(x:Tm n)(w:World)(b o:Nat)(g:0<D)(k:dk w b o n x):dk w b o D (aH D n x):=by
 cases n with
 | zero=>exact k.elim
 | succ n=>
  obtain⟨D,rfl⟩:∃a,D=a+1:=⟨D-1,by omega⟩;obtain⟨c,d,e,f⟩:=k;exact⟨c,d,e,by simpa [aH]using f⟩
theorem qw:(D n:Nat)->(x:Tm n)->(B:Nat)->(w:World)->aA ⟨n,x⟩->eQ n x<D->In B w n x->In B w D (aH D n x)
 | _,0,_,_,_,_,_,k=>k.elim
 | 0,n+1,x,_,_,_,h,_=>by
  have:=(fq (n+1) x).1;omega
 | D+1,n+1,x,B,w,hr,h,k=>by
  obtain⟨l,a⟩:=k;refine⟨by simpa [aH]using l,?_⟩;rcases a with a|⟨b,o,e,j,a⟩
  ·exact ae (by simp[aH,a])
  ·refine af ⟨b,o,e,j,λi y g=>?_⟩;simp only[aH,df]at g;obtain⟨c,d,rfl⟩:=cG.1 g;have f:=ax d;have p:=mz hr f;have m:=(fq n c).1;exact⟨FK D n c w b _ (by omega) (a i c d).1,qw D n c B w (aU n x c hr f) (by omega) (a i c d).2⟩
theorem vX(D n:Nat)(x:Tm (n+1)):de (D+1) (aH (D+1) (n+1) x)=de (n+1) x:=by
 simp[de,aH]
theorem rQ:(D n:Nat)->(x:Tm n)->(P:Nat->Prop)->aA ⟨n,x⟩->eQ n x<D->cg P n x->cg P D (aH D n x)
 | _,0,_,_,h,_,_=>(cU h).elim
 | 0,n+1,x,_,_,h,_=>by
  have:=(fq (n+1) x).1;omega
 | D+1,n+1,x,P,hr,h,k=>by
  rcases k with k|⟨b,o,e,g,k⟩
  ·exact ae (by simp[aH,k])
  ·refine af ⟨b,o,e,g,λi y d=>?_⟩;simp only[aH,df]at d;obtain⟨a,f,rfl⟩:=cG.1 d;have c:=ax f;have j:=mz hr c;exact rQ D n a P (aU n x a hr c) (by omega) (k i a f)
abbrev Tc:Type:=Tm 13
def cn(n:Nat)(x:Tm n):Tc:=G8 13 n x
theorem ge{n m:Nat}{x:Tm n}{y:Tm m}(a:aw n x m y=true):cn n x=cn m y:=EY 13 n x m y a
theorem dV{n:Nat}{x:Tm n}(a:bv n x=0):aw 13 (cn n x) n x=true:=by
 obtain⟨b,c,_⟩:=bt.1 a;exact xE 13 n x (aI.2 b) (by omega)
theorem Hu{n:Nat}{x:Tm n}(a:bv n x=0):cn 13 (cn n x)=cn n x:=ge (dV a)
theorem sD{n:Nat}{x:Tm n}(a:bv n x=0):bv 13 (cn n x)=0:=by rw[bI (dV a),a]
theorem BW{n:Nat}{x:Tm n}(a:bv n x=0):sz 13 (cn n x)=sz n x:=ku _ _ _ _ (dV a)
theorem qm{n:Nat}{x:Tm n}(a:bv n x=0):aF 13 (cn n x)=aF n x:=cw _ _ _ _ (dV a)
theorem Bg{n m:Nat}{x:Tm n}{y:Tm m}(c:bv n x=0)(d:bv m y=0)(b:cn n x=cn m y):aw n x m y=true:=by
 have a:=dD _ _ _ _ (dV c);rw[b]at a;exact bJ _ _ _ _ _ _ a (dV d)
theorem LB{n m:Nat}:(p:List (Tm n))->(q:List (Tm m))->av (λx y=>aw n x m y) p q=true->p.map (cn n)=q.map (cn m):=λp q a=>ju _ _ _ p q (λ_ _ _ b=>ge b) a
def qh:List An:=mi 1 (List.replicate 4 dE)
def KR(a:An):Tc:=cn a.1 a.2
def lG{n:Nat}(c:Cl (n+1))(s m:Tc):Option (List Tc):=(fM (n+1) c.1.1 13 s qh).bind λb=>(fM (n+1) c.1.2.1 13 m b).map λa=>a.map KR
def nR{n:Nat}(s m:Tc):List (Cl (n+1))->Option (Cl (n+1)×List Tc)
 | []=>none
 | c::l=>match lG c s m with
  | some b=>some (c,b)
  | none=>nR s m l
def uz{n:Nat}(l:List (Cl (n+1)))(s:Tc):List Tc->Nat->Option (Nat×Cl (n+1)×List Tc)
 | [],_=>none
 | m::ms,i=>match nR s m l with
  | some x=>some (i,x)
  | none=>uz l s ms (i+1)
theorem DA{x y:An}(a:dQ x y=true)(d:EB y):EB x:=by
 obtain⟨b,c⟩:=d;refine⟨(bI a).trans b,?_⟩;rw[sT a,cw _ _ _ _ a];exact c
theorem qE{d g:Type}(f:d->g->Bool):(p:List d)->(q:List g)->av f p q=true->∀x∈p,∃y∈q,f x y=true
 | [],_,_,x,c=>by simp at c
 | _::_,[],h,_,_=>by simp[av]at h
 | a::p,b::q,h,x,c=>by
  simp only[av,aB]at h;rcases bF.1 c with rfl|c
  ·exact⟨b,by simp,h.1⟩
  ·obtain⟨y,i,e⟩:=qE f p q h.2 x c;exact⟨y,bU _ i,e⟩
theorem DB{p q:List An}(a:av dQ p q=true)(b:∀y∈q,EB y):∀x∈p,EB x:=λx c=>by
 obtain⟨y,d,e⟩:=qE _ _ _ a x c;exact DA e (b y d)
theorem qg{n:Nat}:(l:List (Tm n))->(b:List An)->(∀y∈b,aA y/\y.1<=n)->av (λx y=>aw n x n y) l (b.map λa=>aH n a.1 a.2)=true->av dQ (mi n l) b=true
 | [],[],_,_=>rfl
 | [],_::_,_,h=>by simp[av]at h
 | _::_,[],_,h=>by simp[av]at h
 | x::l,a::b,hb,h=>by
  simp only[aJ,av,aB]at h;simp only[mi,aJ,av,aB];obtain⟨c,d⟩:=hb a (by simp);exact⟨bJ _ _ _ _ _ _ h.1 (fP n a.1 d a.2 c),qg l b (λy e=>hb y (bU _ e)) h.2⟩
theorem Jk{p q:List An}(a:av dQ p q=true):p.map KR=q.map KR:=ju _ _ _ p q (λ_ _ _ b=>ge b) a
theorem Aa:av dQ qh qh=true:=by
 refine jW _ _ λa b=>?_;exact fS _ _ (pG (Ab a b))
theorem Jl{n:Nat}{x:Tm n}(a:bv n x=0)(b:aF n x=true):EB ⟨n,x⟩:=⟨a,af b⟩
theorem cg.both{P Q:Nat->Prop}:{n:Nat}->{x:Tm n}->cg P n x->cg Q n x->cg (λb=>P b/\Q b) n x
 | 0,_,p,_=>p
 | _+1,_,p,k=>by
  rcases p with p|⟨b,o,e,g,p⟩
  ·exact ae p
  ·rcases k with k|⟨j,l,a,h,k⟩
   ·exact ae k
   ·rw[e]at a;injection a with a;injection a with d f;subst d f;exact af ⟨b,o,e,⟨g,h⟩,λi y c=>(p i y c).both (k i y c)⟩
structure oX (D:Nat) (l:List (Tm D)) (B:List Tc) (b0:Nat) (w':World) (bg bc:Nat):Prop where
 bnd:fy D l=true
 tells:l.map (cn D)=B
 cap:4<=bc/\bc<=maxLen
 new:b0<=bg/\bg<w'.heap.size
 at':∀(i:Nat)(y:Tm D),l[i]?=some y->dk w' bg (i*4) D y/\In w'.heap.size w' D y/\cg (λq=>b0<=q/\q≠bg) D y
 free:∀j,w'.frozen? ⟨bg,j,none⟩=false
def Jh{n:Nat}(c:Cl (n+1))(s m:Tc)(w:World)(e:Ending)(w':World):Prop:=
 ∃b len f g,e=.returned (.tuple #[.slice b len f,.bool g])/\Hid (Below w.heap.size w w'/\g=(lG c s m).isSome/\∀a,lG c s m=some a->len=4/\∃h l d,b=some ⟨d,0,none⟩/\oX h l a w.heap.size w' d f)
theorem Fl{n m k:Nat}(c:Cl (n+1))(s:Tm (m+1))(t:Tm (k+1))(R:bv (n+1) c.1.1=0)(S:bv (n+1) c.1.2.1=0)(A:bv (m+1) s=0)(T:aF (m+1) s=true)(B:bv (k+1) t=0)(U:aF (k+1) t=true){w w':World}{e:Ending}(Q:EG (fM (n+1) c.1.1 (m+1) s qh) (fM (n+1) c.1.2.1 (k+1) t) w e w'):Jh c (cn (m+1) s) (cn (k+1) t) w e w':=by
 obtain⟨K,len,P,ap,rfl,J⟩:=Q;obtain⟨V,Z,ae⟩:=J.out;refine⟨K,len,P,ap,rfl,V,?_⟩;have f:=qr (n+1) c.1.1 (m+1) s (n+1) c.1.1 13 (cn (m+1) s) qh qh (fS _ _ (aI.2 (bt.1 R).1)) (dD _ _ _ _ (dV A)) Aa;cases e1:fM (n+1) c.1.1 (m+1) s qh with
 | none=>
  rw[e1]at f;cases e2:fM (n+1) c.1.1 13 (cn (m+1) s) qh with
  | some _=>
   rw[e2]at f;exact f.elim
  | none=>
   have j:lG c (cn (m+1) s) (cn (k+1) t)=none:=by simp[lG,e2]
   rw[j];exact⟨Z e1,λz i=>by cases i⟩
 | some b=>
  rw[e1]at f;cases e2:fM (n+1) c.1.1 13 (cn (m+1) s) qh with
  | none=>
   rw[e2]at f;exact f.elim
  | some q=>
   rw[e2]at f;have r:=mC EB tq (n+1) c.1.1 (m+1) s (Jl A T) qh b ⟨by simp[qh,mi],Ab⟩ e1;obtain⟨o,X,aa,af⟩:=ae b e1;have p:av dQ (mi (lA b) o) b=true:=qg o b (λa d=>⟨pG (r.2 a d),wZ b a d⟩) X;have L:av dQ (mi (lA b) o) q=true:=mN dQ dQ dQ _ _ _ (λH _ a I aj G=>bJ H.1 H.2 a.1 a.2 I.1 I.2 aj G) p f;have g:=qr (n+1) c.1.2.1 (k+1) t (n+1) c.1.2.1 13 (cn (k+1) t) _ _ (fS _ _ (aI.2 (bt.1 S).1)) (dD _ _ _ _ (dV B)) L;cases e3:fM (n+1) c.1.2.1 (k+1) t (mi (lA b) o)with
   | none=>
    rw[e3]at g;cases e4:fM (n+1) c.1.2.1 13 (cn (k+1) t) q with
    | some _=>
     rw[e4]at g;exact g.elim
    | none=>
     have j:lG c (cn (m+1) s) (cn (k+1) t)=none:=by simp[lG,e2,e4]
     rw[j];exact⟨aa e3,λz i=>by cases i⟩
   | some h=>
    rw[e3]at g;cases e4:fM (n+1) c.1.2.1 13 (cn (k+1) t) q with
    | none=>
     rw[e4]at g;exact g.elim
    | some N=>
     rw[e4]at g;have j:lG c (cn (m+1) s) (cn (k+1) t)=some (N.map KR):=by simp[lG,e2,e4]
     rw[j];obtain⟨ah,ai,E,aw,l,aq,F⟩:=af h e3;refine⟨ah,λz i=>⟨ai,lA h,l,?_⟩⟩;cases i;have ab:=DB p r.2;have Y:(mi (lA b) o).length=4:=by rw[cS _ _ _ p];exact r.1
     have C:=mC EB tq (n+1) c.1.2.1 (k+1) t (Jl B U) _ h ⟨Y,ab⟩ e3;have D:∀a∈h,aA a:=λa d=>pG (C.2 a d);obtain⟨_,v,ag,_⟩:=BZ F D E;have W:=vn C.2 v E ag;obtain⟨_,_,ar,ak,al,x⟩:=F;rcases x with x|⟨O,bo,rfl,⟨au,rfl,an,ao⟩,am,y⟩
     ·rw[x]at v;simp at v
     ·refine⟨O,rfl,W,?_,⟨by omega,ak⟩,⟨by omega,am⟩,λu a d=>⟨?_,(y u a d).2.1,(cg.both (y u a d).2.2 (ao a (ax d))).mono λG ad=>⟨by omega,ad.2⟩⟩,an⟩;rotate_left
      ·have:=(y u a d).1;rw[cQ]at this;exact this
      have M:av dQ (mi (lA h) l) h=true:=qg l h (λa d=>⟨D a d,wZ h a d⟩) al;rw[<-Jk g,<-Jk M];simp[mi,KR]
theorem DN{n m k:Nat}(c:Cl (n+1))(s:Tm (m+1))(t:Tm (k+1))(B:Nat)(w:World)(i:fW (n+1) B w c)(j:In B w (m+1) s)(l:In B w (k+1) t)(h:B<=w.heap.size)(a:bv (n+1) c.1.1=0)(b:bv (n+1) c.1.2.1=0)(d:bv (m+1) s=0)(e:aF (m+1) s=true)(f:bv (k+1) t=0)(g:aF (k+1) t=true):Calls Tryz.prog 81 #[.agg (et (n+1) c).toArray,de (m+1) s,de (k+1) t] w (Jh c (cn (m+1) s) (cn (k+1) t) w):=
 (DM n m k c s t B w i j l h a b d (by rw[<-eN];exact e) f (by rw[<-eN];exact g)).mono λ_ _ o=>Fl c s t a b d e f g o
theorem ks:(N n:Nat)->n<=N->(x:Tm n)->aF N (aH N n x)=aF n x
 | 0,0,_,_=>rfl
 | _+1,0,_,_=>by simp[aH,aF]
 | 0,n+1,h,_=>by omega
 | N+1,n+1,h,x=>by
  have:(x.2.2.map λy=>aH N n y).all (λy=>aF N y)=x.2.2.all λy=>aF n y:=by
   rw[List.all_map];congr 1;funext y;exact ks N n (by omega) y
  simp only[aF,aH];rw[this]
theorem vq(m:Nat)(b:List (Tm m))(self:Int)(k:∀y∈b,bD ⟨m,y⟩=6\/aF m y=true):(n:Nat)->(x:Tm n)->aA ⟨n,x⟩->(j:Tm (m+n))->vl m b self n x=some j->aF (m+n) j=true
 | 0,_,_,_,d=>by simp[vl]at d
 | n+1,x,hr,j,d=>by
  have p:=eg (bm n x) (hr (bm n x) (by simp[ap,bm]));by_cases g:x.1.1=6
  ·rw[GU m b self n x g]at d;cases d
  ·by_cases f:x.1.1=5
   ·simp only[vl,f,cR]at d;obtain⟨y,h,d⟩:=bz.1 d;split at d
    ·cases d
    ·rename_i t;obtain rfl:=aq d;exact(ks (m+n+1) m (by omega) y).trans ((k y (ax h)).resolve_left t)
   ·by_cases e:x.1.1=4
    ·rw[GV m b self n x e]at d;unfold uq at d;split at d
     ·obtain rfl:=aq d;simp[aS,aF]
     ·split at d
      ·obtain⟨a,q,d⟩:=bz.1 d;obtain⟨c,D,d⟩:=bz.1 d;obtain⟨A,C,d⟩:=bz.1 d;obtain⟨B,E,d⟩:=bz.1 d;unfold rJ at d;split at d
       ·obtain rfl:=aq d;simp[aS,aF]
       ·cases d
      ·split at d
       ·obtain⟨a,q,d⟩:=bz.1 d;split at d
        ·rename_i r;obtain rfl:=aq d;exact(ks (m+n+1) n (by omega) a).trans r
        ·cases d
       ·obtain⟨l,u,rfl⟩:=cG.1 d;obtain⟨w,z⟩:=o9 _ _ _ u;show aF (m+n+1) (cI (m+n) l)=true;simp only[aF,cI];simp only[aB,bT];refine⟨by decide,λy h=>?_⟩;obtain⟨i,o⟩:=cF h;have s:i<x.2.2.length:=by rw[<-w];exact(aK.1 o).1
        exact vq m b self k n x.2.2[i] (aU n x _ hr (iG _)) y (z i _ y (az s) o)
    ·rw[Cz m b self n x e f g]at d;obtain rfl:=aq d;have v:x.2.2=[]:=bL (p.2.2.2.2 e);refine(ks (m+n+1) (n+1) (by omega) x).trans ?_;simp[aF,f,g,v]
def fY(n:Nat)(name:ByteArray):List (Bh n)->Option (Bh n)
 | []=>none
 | b::l=>if b.1=name then some b else fY n name l
def Ht(n:Nat):Option (Bh n)->Value
 | none=> .slice none 0 0
 | some b=> .slice b.2.1.1 b.2.2.length b.2.1.2
theorem mX(n:Nat)(name:ByteArray){l:List (Bh n)}{j:Nat}{b:Bh n}(c:l[j]?=some b):fY n name (l.drop j)=if b.1=name then some b else fY n name (l.drop (j+1)):=by
 obtain⟨d,a⟩:=aK.1 c;rw[eA d,a];rfl
theorem sy(n:Nat)(name:ByteArray)(l:List (Bh n))(r:Option Addr)(D len B:Nat)(w:World)(G:l.length=len)(H:len<=9223372036854775807)(z:B<=w.heap.size)(x:Hid (fl n B w r l)):Calls Tryz.prog 56 #[.slice r len D,.string name] w λe w'=>e=.returned (Ht n (fY n name l))/\Below w.heap.size w w':=by
 go_enter Tryz.func56,Tryz.ntmps56;go_wp2_with fail;go_loopw [9] (λq wr=>∃a:Nat,a<=len/\q=.int .i64 a/\Hid (Below w.heap.size w wr/\fY n name l=fY n name (l.drop a))) (λq _=>len-(intOf q).toNat)
 case atStart=>exact⟨0,by omega,rfl,ah _ _,rfl⟩
 case round=>
 obtain⟨a,F,rfl,c⟩:=hrel;by_cases I:a<len
 ·obtain⟨b,d⟩:∃b,l[a]?=some b:=⟨l[a]'(by omega),az _⟩;obtain⟨k,lo,rfl,C,v⟩:∃g o,r=some ⟨g,o,none⟩/\g<B/\Hid (∀(t:Nat)(f:Value),(mW n b)[t]?=some f->w.cell? ⟨g,o+a*2+t,none⟩=some f):=by
   rcases x.out with e|⟨g,o,e,A,y⟩
   ·rw[e]at d;simp at d
   ·exact⟨g,o,e,A,(y a _ d).1⟩
  have i:∀(t:Nat)(f:Value),(mW n b)[t]?=some f->wr.cell? ⟨k,lo+a*2+t,none⟩=some f:=λt f u=>(c.out.1.cell (p:=⟨k,lo+a*2+t,none⟩) (aM C z)).trans (v.out t f u);have E:wr.cell? ⟨k,lo+a*2,none⟩=some (.string b.1):=i 0 _ rfl;have L:wr.cell? ⟨k,lo+a*2+1,none⟩=some (.slice b.2.1.1 b.2.2.length b.2.1.2):=i 1 _ rfl;have J:(0:Int)<=(a:Int):=by omega
  have K:(a:Int)<(len:Int):=by omega
  have s:Hid (∀o:Obj,Below w.heap.size w (wr.alloc o)):=λo=>c.out.1.alloc c.out.1.size o;by_cases j:b.1=name
  ·have h:Hid (fY n name l=some b):=by
     show _=_;rw[c.out.2,mX n name d,if_pos j]
   have m:Hid (Ht n (fY n name l)=.slice b.2.1.1 b.2.2.length b.2.1.2):=by
    show _=_;rw[h.out];rfl
   rw[j]at E;clear i c h d;go_wp2_with fail
   go_ret
   rw[m.out];exact⟨rfl,s.out _⟩
  ·have h:Hid (fY n name l=fY n name (l.drop (a+1))):=by
     show _=_;rw[c.out.2,mX n name d,if_neg j]
   have u:(b.1.toList==name.toList)=false:=by
    rw[gD];intro e;rw[dm,dm]at e;exact j (ByteArray.ext (Array.ext' e))
   clear i c d;go_wp2_with fail;go_roundw
   case rel=>exact⟨a+1,by omega,by go_num,s.out _,h.out⟩
   case measure=>simp[intOf];omega
 ·obtain rfl:a=len:=by omega
  have m:Hid (Ht n (fY n name l)=.slice none 0 0):=by
   show _=_;rw[c.out.2,List.drop_of_length_le (by omega)];rfl
  have HB:=ai c.out.1;clear c;go_wp2_with fail
  go_ret
  rw[m.out];exact⟨rfl,HB.out⟩
def p8(b:List Tc)(self:Int)(n:Nat)(x:Tm n):Option Tc:=(vl 13 b self n x).bind λa=>if bv (13+n) a=0 then some (cn (13+n) a)else none
def kS(b:List Tc)(self:Int)(n:Nat)(x:Tm n):Option Int:=(p8 b self n x).bind λt=>if t.1.1=3 then some t.1.2.1 else none
structure Dg where
 b:List Tc
 next:Int
 sends:List (Int×Tc)
 spawns:List (Int×ByteArray×Tc)
 links:List Int
 stops:Bool
def DO(u:Int):Tc:=((3,u,.empty),(none,0),[])
def sF(self:Int){n:Nat}(a:Ac (n+1))(d:Dg):Option Dg:=
 if a.1=1 then (kS d.b self (n+1) a.2.1.1).bind λc=>(p8 d.b self (n+1) a.2.1.2).map λt=>{d with sends:=d.sends++ [(c,t)]}
 else if a.1=2 then (p8 d.b self (n+1) a.2.1.2).bind λt=>if bD ⟨13,(d.b[a.2.2.2.toNat]?).getD (DO 0)⟩=6 then some {d with b:=d.b.set a.2.2.2.toNat (DO d.next),next:=d.next+1,spawns:=d.spawns++ [(d.next,a.2.2.1,t)]}else none
 else if a.1=3 then (kS d.b self (n+1) a.2.1.1).map λc=>{d with links:=d.links++ [c]}
 else some {d with stops:=true}
def qq(self:Int){n:Nat}:List (Ac (n+1))->Dg->Option Dg
 | [],d=>some d
 | a::l,d=>(sF self a d).bind (qq self l)
structure Tk where
 message:Tc
 fate:Int
 sends:List (Int×Tc)
 spawns:List (Int×ByteArray×Tc)
 links:List Int
 state:Tc
 mail:List Tc
def eP{n:Nat}(room self next:Int)(s m:Tc)(ms:List Tc)(c:Cl (n+1))(b:List Tc):Tk:=
 match qq self c.2.2 ⟨b,next,[],[],[],false⟩with
 | none=>⟨m,2,[],[],[],s,ms⟩
 | some a=>match p8 a.b self (n+1) c.1.2.2 with
  | none=>⟨m,2,[],[],[],s,ms⟩
  | some t=>if (ms.map (sz 13)).sum+sz 13 t<=room then ⟨m,if a.stops then 1 else 0,a.sends,a.spawns,a.links,t,ms⟩else ⟨m,3,[],[],[],s,ms⟩
def gI{n:Nat}(name:ByteArray)(l:List (Bh (n+1))):List (Cl (n+1)):=((fY (n+1) name l).map λb=>b.2.2).getD []
def mQ{n:Nat}(room:Int)(l:List (Bh (n+1)))(name:ByteArray)(self next:Int)(s:Tc)(ms:List Tc):Option Tk:=
 (uz (gI name l) s ms 0).bind λa=>(ms[a.1]?).map λb=>eP room self next s b (ms.eraseIdx a.1) a.2.1 a.2.2
theorem vf{D:Nat}{l:List (Tm D)}{B:List Tc}(c:fy D l=true)(d:l.map (cn D)=B):av (λx y=>aw D x 13 y) l B=true:=by
 rw[<-d];refine oM (λy x=>aw 13 y D x) _ _ _ (λf _ b a=>dD _ _ _ _ a) (gS _ _ _ λy e=>?_);exact dV ((gd c).2 y e).1
theorem Gb{D:Nat}{l:List (Tm D)}{B:List Tc}(b:fy D l=true)(c:l.map (cn D)=B):fy 13 B=true:=by
 have e:=vf b c;obtain⟨f,g⟩:=gd b;unfold fy;rw[<-cS _ _ _ e,f];simp only[decide_true,dZ,bT];intro k d;rw[<-c]at d;obtain⟨j,i,rfl⟩:=dy.1 d;have a:=g j i;have h:=dV a.1;simp only[yO,aB,cr,gt];refine⟨sD a.1,?_⟩;rw[jv h,<-eN,qm a.1];exact a.2.2
theorem GS{D n:Nat}{l:List (Tm D)}{B:List Tc}(b:fy D l=true)(g:l.map (cn D)=B)(self:Int)(x:Tm n)(k:bv n x=0):(mj 0 (vl D l self n x)).map (cn (D+n))=p8 B self n x:=by
 have j:aA ⟨n,x⟩:=aI.2 (bt.1 k).1;have i:=Gb b g;have a:=pV D l 13 B self (vf b g) (λd c=>aI.2 (bt.1 ((gd b).2 d c).1).1) (λd c=>aI.2 (bt.1 ((gd i).2 d c).1).1) n x j;unfold p8 mj;cases e1:vl D l self n x with
 | none=>
  rw[e1]at a;cases e2:vl 13 B self n x with
  | none=>rfl
  | some _=>
   rw[e2]at a;exact a.elim
 | some m=>
  rw[e1]at a;cases e2:vl 13 B self n x with
  | none=>
   rw[e2]at a;exact a.elim
  | some h=>
   rw[e2]at a;have f:aw (D+n) m (13+n) h=true:=a;simp only[cR,dr];rw[bI f];by_cases e:bv (13+n) h=0
   ·simp[e,ge f]
   ·simp[e]
theorem Kq{n:Nat}{B:List Tc}(d:fy 13 B=true){self:Int}{x:Tm n}(f:bv n x=0){t:Tc}(a:p8 B self n x=some t):bv 13 t=0/\aF 13 t=true/\cn 13 t=t:=by
 have e:aA ⟨n,x⟩:=aI.2 (bt.1 f).1;unfold p8 at a;obtain⟨c,h,a⟩:=bz.1 a;by_cases b:bv (13+n) c=0
 ·rw[if_pos b]at a;obtain rfl:=aq a;refine⟨sD b,?_,Hu b⟩;rw[qm b];exact vq 13 B self (λi g=>((gd d).2 i g).2.2) n x e c h
 ·rw[if_neg b]at a;cases a
def ke(b a:Nat)(d c lv:Value)(q:Nat):Prop:=q=b\/q=a\/d.ownBlock=some q\/c.ownBlock=some q\/lv.ownBlock=some q
def G7(base b a:Nat)(d c lv:Value)(q:Nat):Prop:=base<=q/\¬ke b a d c lv q
structure dT (base db:Nat) (me:Int) (n D k:Nat) (nx:Int) (d:Dg) (w:World) (l:List (Tm (D+1))) (bg bc:Nat) (sd:List (Int×Tm (D+1+n+1))) (sp:List (Int×ByteArray×Tm (D+1+n+1))) (sv pv lv:Value):Prop where
 box:w.heap[db]?=some (.cells #[.slice (some ⟨bg,0,none⟩) 4 bc,.int .i64 me,.int .i64 d.next,sv,pv,lv,.bool d.stops] 142)
 own:db≠bg/\base<=db/\base<=bg/\bg<w.heap.size/\base<=w.heap.size
 bnd:fy (D+1) l=true
 tells:l.map (cn (D+1))=d.b
 row:∀(i:Nat)(y:Tm (D+1)),l[i]?=some y->dk w bg (i*4) (D+1) y/\In w.heap.size w (D+1) y/\cg (G7 base db bg sv pv lv) (D+1) y
 free:∀j,w.frozen? ⟨bg,j,none⟩=false
 sRow:w.ownsRow base 149 5 sv sd.length (sd.flatMap λz=>Jp z.1 z.2)
 pRow:w.ownsRow base 146 6 pv sp.length (sp.flatMap λz=>Ki z.1 z.2.1 z.2.2)
 lRow:w.ownsRow base 3 1 lv d.links.length (d.links.map λu=> .int .i64 u)
 sIs:sd.map (λz=>(z.1,cn _ z.2))=d.sends
 pIs:sp.map (λz=>(z.1,z.2.1,cn _ z.2.2))=d.spawns
 sIn:∀z∈sd,bv _ z.2=0/\In w.heap.size w _ z.2/\cg (G7 base db bg sv pv lv) _ z.2
 pIn:∀z∈sp,bv _ z.2.2=0/\In w.heap.size w _ z.2.2/\cg (G7 base db bg sv pv lv) _ z.2.2
 apart:(sv.ownBlock≠some db/\pv.ownBlock≠some db/\lv.ownBlock≠some db)/\(sv.ownBlock≠some bg/\pv.ownBlock≠some bg/\lv.ownBlock≠some bg)/\∀q,(sv.ownBlock=some q->pv.ownBlock≠some q/\lv.ownBlock≠some q)/\(pv.ownBlock=some q->lv.ownBlock≠some q)
 few:sd.length<=k/\sp.length<=k/\d.links.length<=k/\d.next=nx+sp.length/\1<=nx/\nx<=92
def Do(base b:Nat)(self:Int)(n D k:Nat)(g:Int)(d:Dg)(S:Nat->Prop)(w0 w:World):Prop:=∃l a f h i e c lv,dT base b self n D k g d w l a f h i e c lv/\∀q,ke b a e c lv q->S q\/w0.heap.size<=q
theorem qu{base n:Nat}{x:Tm n}{S c:Nat->Prop}{w w':World}(k:bi S w w')(f:∀q,c q->S q\/w.heap.size<=q)(d:In w.heap.size w n x)(e:cg (λq=>base<=q/\¬S q) n x):In w'.heap.size w' n x/\cg (λq=>base<=q/\¬c q) n x:=by
 refine⟨d.kee k (e.mono λq a=>a.2),(In.offB e d).mono λq a=>⟨a.1.1,λb=>?_⟩⟩;rcases f q b with b|b
 ·exact a.1.2 b
 ·have:=a.2;omega
theorem AM{w w':World}{n:Nat}{q:List (Tm n)}{a:Option Addr}(c:eS w.heap.size w n q a)(d:Below w.heap.size w w'):eS w'.heap.size w' n q a:=by
 rcases c.below d with c|⟨b,o,h,i,c⟩
 ·exact ae c
 ·exact af ⟨b,o,h,aM i d.size,λf g e=>⟨(c f g e).1,(c f g e).2.mono d.size⟩⟩
section
variable {base db:Nat} {self:Int} {n D k:Nat} {nx:Int} {d:Dg} {w:World} {l:List (Tm (D+1))} {bg bc:Nat} {sd:List (Int×Tm (D+1+n+1))} {sp:List (Int×ByteArray×Tm (D+1+n+1))} {sv pv lv:Value}
theorem dT.lt(a:dT base db self n D k nx d w l bg bc sd sp sv pv lv):db<w.heap.size:=(aE.1 a.box).1
theorem dT.high(c:dT base db self n D k nx d w l bg bc sd sp sv pv lv):∀q,ke db bg sv pv lv q->base<=q:=by
 intro q a;obtain⟨_,i,j,_⟩:=c.own;have f:∀{b:TypeId}{r o:Nat}{g:Value}{p:List Value},w.ownsRow base b r g o p->g.ownBlock=some q->base<=q:=λm e=>by
  rcases m.2 with⟨b,_⟩|⟨h,cap,s,b,t,_⟩
  ·rw[b]at e;cases e
  ·rw[b]at e;have:h=q:=aq e;omega
 rcases a with rfl|rfl|a|a|a
 ·exact i
 ·exact j
 ·exact f c.sRow a
 ·exact f c.pRow a
 ·exact f c.lRow a
theorem dT.later(a:dT base db self n D k nx d w l bg bc sd sp sv pv lv){w':World}(e:Below w.heap.size w w'):dT base db self n D k nx d w' l bg bc sd sp sv pv lv:=by
 have h:=aC e (λ_=>False);have i:=e.size;obtain⟨t,u,v,q,y⟩:=a.own;refine⟨(e.block db a.lt).trans a.box,⟨t,u,v,by omega,by omega⟩,a.bnd,a.tells,λs x r=>?_,λo=>?_,aT a.sRow h λ_ _ g=>g,aT a.pRow h λ_ _ g=>g,aT a.lRow h λ_ _ g=>g,a.sIs,a.pIs,λm j=>?_,λm j=>?_,a.apart,a.few⟩
 ·obtain⟨f,b,c⟩:=a.row s x r;exact⟨f.below e q,(b.below e).mono i,c⟩
 ·exact(e.frozen (p:=⟨bg,o,none⟩) q).trans (a.free o)
 ·obtain⟨f,b,c⟩:=a.sIn m j;exact⟨f,(b.below e).mono i,c⟩
 ·obtain⟨f,b,c⟩:=a.pIn m j;exact⟨f,(b.below e).mono i,c⟩
theorem dT.more(a:dT base db self n D k nx d w l bg bc sd sp sv pv lv){e:Nat}(i:k<=e):dT base db self n D e nx d w l bg bc sd sp sv pv lv:=by
 obtain⟨h,b,c,g,f⟩:=a.few;exact{a with few:=⟨by omega,by omega,by omega,g,f⟩}
theorem dT.lies(a:dT base db self n D k nx d w l bg bc sd sp sv pv lv):eS w.heap.size w (D+1) l (some ⟨bg,0,none⟩):=af ⟨bg,0,rfl,a.own.2.2.2.1,λi y b=>by
 rw[cQ]
 exact⟨(a.row i y b).1,(a.row i y b).2.1⟩⟩
theorem dT.value(a:dT base db self n D k nx d w l bg bc sd sp sv pv lv)(x:Tm (n+1))(r:In base w (n+1) x)(g:bv (n+1) x=0)(o:1<=self/\self<=99):∀W,Below w.heap.size w W->Calls Tryz.prog 83 #[.pointer (some ⟨db,0,none⟩),.agg #[.int .i64 x.1.1,.int .i64 x.1.2.1,.string x.1.2.2,.slice x.2.1.1 x.2.2.length x.2.1.2]] W (uv (D+1+n) (mj 0 (vl (D+1) l self (n+1) x)) W):=by
 intro W b;have i:Ct (bv (n+1) x) (fy (D+1) l) self=0:=by simp[Ct,g,a.bnd,o]
 have f:=(gd a.bnd).1;have m:=a.lies;have h:=a.own.2.2.2.2;have q:=vR (D+1+n) 0 (vl (D+1) l self (n+1) x) x.1.1 x.1.2.1 x.1.2.2 x.2.1.1 x.2.2.length x.2.1.2 (some ⟨bg,0,none⟩) bc self db W (aM a.lt b.size) ((b.cell (p:=⟨db,0,none⟩) a.lt).trans (ab a.box 0)) ((b.cell (p:=⟨db,1,none⟩) a.lt).trans (ab a.box 1)) λe j=>by
  have c:=b.trans (j.mono b.size);have:=Bc n (D+1) x l (some ⟨bg,0,none⟩) bc e.heap.size self e ((r.below (c.mono h)).mono (au h c.size)) (AM m c) (ag _) (eO g) (by rw[f];decide) (λt s=>eO ((gd a.bnd).2 t s).1);rw[i,f]at this;exact this
 exact q
theorem dT.process(h:dT base db self n D k nx d w l bg bc sd sp sv pv lv)(x:Tm (n+1))(z:In base w (n+1) x)(j:bv (n+1) x=0)(t:1<=self/\self<=99):∀W,Below w.heap.size w W->Calls Tryz.prog 136 #[.pointer (some ⟨db,0,none⟩),.agg #[.int .i64 x.1.1,.int .i64 x.1.2.1,.string x.1.2.2,.slice x.2.1.1 x.2.2.length x.2.1.2]] W λe w'=>∃u,e=.returned (.tuple #[.int .i64 u,.bool (kS d.b self (n+1) x).isSome])/\Hid (Below W.heap.size W w'/\∀v,kS d.b self (n+1) x=some v->u=v):=by
 intro W i;have a:=GS h.bnd h.tells self x j;refine(xW (D+1+n) _ x.1.1 x.1.2.1 x.1.2.2 x.2.1.1 x.2.2.length x.2.1.2 db W λr s=>h.value x z j t r (i.trans (s.mono i.size))).mono ?_;rintro e w' ⟨u,rfl,o⟩;obtain⟨p,q⟩:=o.out;have m:Ce (mj 0 (vl (D+1) l self (n+1) x))=(kS d.b self (n+1) x).isSome/\∀v,kS d.b self (n+1) x=some v->u=v:=by
  unfold kS;rw[<-a];cases e:mj 0 (vl (D+1) l self (n+1) x)with
  | none=>exact⟨rfl,λv a=>by cases a⟩
  | some c=>
   have A:(cn (D+1+n+1) c).1=c.1:=rfl;have y:=q c e;simp only[Option.map_some,dr,Ce];by_cases g:c.1.1=3
   ·have f:(cn (D+1+n+1) c).1.1=3:=g;refine⟨?_,λv a=>?_⟩
    ·erw [if_pos f]
     simp[g]
    ·erw [if_pos f]at a
     rw[y,<-aq a];rfl
   ·have f:¬(cn (D+1+n+1) c).1.1=3:=g;refine⟨?_,λv a=>?_⟩
    ·erw [if_neg f]
     simp[g]
    ·erw [if_neg f]at a
     cases a
 exact⟨u,by rw[m.1],p,m.2⟩
end
section
variable {base db:Nat} {self:Int} {n D k:Nat} {nx:Int} {d:Dg} {w:World} {l:List (Tm (D+1))} {bg bc:Nat} {sd:List (Int×Tm (D+1+n+1))} {sp:List (Int×ByteArray×Tm (D+1+n+1))} {sv pv lv:Value}
def vz(base db:Nat)(self:Int)(n D k:Nat)(nx:Int)(d:Dg)(a:Ac (n+1))(S:Nat->Prop)(w:World)(t:Bool)(w':World):Prop:=
 bi S w w'/\t=(sF self a d).isSome/\∀b,sF self a d=some b->Do base db self n D (k+1) nx b S w w'
theorem kY{w:World}{base:Nat}{e:TypeId}{g m:Nat}{v:Value}{xs:List Value}(f:w.ownsRow base e g v m xs):∃a c,v=.slice a m c:=by
 rcases f.2 with⟨b,d⟩|⟨i,cap,h,b,_⟩
 ·exact⟨none,0,by rw[b,d]⟩
 ·exact⟨_,cap,b⟩
theorem mP{w:World}{b:Nat}{v0 v1 v2 v3 a c d:Value}{t:TypeId}(e:w.heap[b]?=some (.cells #[v0,v1,v2,v3,a,c,d] t)):(∀v,(w.setCell ⟨b,3,none⟩ v).heap[b]?=some (.cells #[v0,v1,v2,v,a,c,d] t))/\(∀v,(w.setCell ⟨b,4,none⟩ v).heap[b]?=some (.cells #[v0,v1,v2,v3,v,c,d] t))/\(∀v,(w.setCell ⟨b,5,none⟩ v).heap[b]?=some (.cells #[v0,v1,v2,v3,a,v,d] t))/\(∀v,(w.setCell ⟨b,2,none⟩ v).heap[b]?=some (.cells #[v0,v1,v,v3,a,c,d] t))/\∀v,(w.setCell ⟨b,6,none⟩ v).heap[b]?=some (.cells #[v0,v1,v2,v3,a,c,v] t):=by
 refine⟨λv=>?_,λv=>?_,λv=>?_,λv=>?_,λv=>?_⟩<;>
 ·unfold World.setCell;simp[bK,e]
theorem rP{w:World}{b:Nat}{cs:Array Value}{t:TypeId}(a:w.heap[b]?=some (.cells cs t))(j:Nat):w.frozen? ⟨b,j,none⟩=false:=by simp[World.frozen?,a]
theorem dT.frame(c:dT base db self n D k nx d w l bg bc sd sp sv pv lv){w':World}{j h g:Value}(f:bi (ke db bg sv pv lv) w w')(m:∀q,ke db bg j h g q->ke db bg sv pv lv q\/w.heap.size<=q):(∀(i:Nat)(y:Tm (D+1)),l[i]?=some y->In w'.heap.size w' (D+1) y/\cg (G7 base db bg j h g) (D+1) y)/\(∀a∈sd,bv _ a.2=0/\In w'.heap.size w' _ a.2/\cg (G7 base db bg j h g) _ a.2)/\(∀a∈sp,bv _ a.2.2=0/\In w'.heap.size w' _ a.2.2/\cg (G7 base db bg j h g) _ a.2.2)/\Below base w w':=
 ⟨λi y o=>qu f m (c.row i y o).2.1 (c.row i y o).2.2,λa e=>⟨(c.sIn a e).1,qu f m (c.sIn a e).2.1 (c.sIn a e).2.2⟩,λa e=>⟨(c.pIn a e).1,qu f m (c.pIn a e).2.1 (c.pIn a e).2.2⟩,f.below c.own.2.2.2.2 λb p q=>by
  have:=c.high b q
  omega⟩
theorem dT.link(g:dT base db self n D k nx d w l bg bc sd sp sv pv lv)(a:Ac (n+1))(Q:gE (n+1) base w a)(U:bv (n+1) a.2.1.1=0)(P:a.1=3)(Z:1<=self/\self<=99)(ap:k<=1000):Calls Tryz.prog 126 #[.pointer (some ⟨db,0,none⟩),Kw a] w λe w'=>∃t,e=.returned (.bool t)/\Hid (vz base db self n D k nx d a (ke db bg sv pv lv) w t w'):=by
 have J:=g.lRow;obtain⟨r,s,rfl⟩:=kY J;obtain⟨am,an,ao,O⟩:=g.few;have u:sF self a d=(kS d.b self (n+1) a.2.1.1).map λx=>{d with links:=d.links++ [x]}:=by
  simp[sF,P]
 refine(Dn a.1 a.2.1.1.1.1 a.2.1.1.1.2.1 a.2.1.1.1.2.2 a.2.1.1.2.1.1 a.2.1.1.2.2.length a.2.1.1.2.1.2 a.2.1.2.1.1 a.2.1.2.1.2.1 a.2.1.2.1.2.2 a.2.1.2.2.1.1 a.2.1.2.2.2.length a.2.1.2.2.1.2 a.2.2.1 a.2.2.2 base db r d.links.length s _ w (kS d.b self (n+1) a.2.1.1).isSome (λx=>∀y,kS d.b self (n+1) a.2.1.1=some y->x=y) (by omega) g.lt g.own.2.2.2.2 ⟨ab g.box 5,rP g.box 5⟩ J g.apart.1.2.2 (g.process a.2.1.1 Q.2.1 U Z)).mono ?_;rintro e w' ⟨rfl,V,v⟩;refine⟨_,rfl,?_⟩;cases hp:kS d.b self (n+1) a.2.1.1 with
 | none=>
  have R:=V (by rw[hp];rfl);refine⟨aC R _,by rw[u,hp];rfl,λN o=>?_⟩;rw[u,hp]at o;cases o
 | some y=>
  obtain⟨x,m,c,z,ad,Y,j,i,rfl⟩:=v (by rw[hp];rfl);obtain rfl:=ad y hp;have T:z.heap[db]?=_:=(j.block db g.lt λf=>g.apart.1.2.2 f).trans g.box;have C:bi (ke db bg sv pv (.slice r d.links.length s)) w (z.setCell ⟨db,5,none⟩ (.slice (some ⟨m,0,none⟩) (d.links.length+1) c)):=bi.trans (j.mono λf _ h=>af (af (af (af h)))) (bH _ _ _ _) λf _ h=>ae h;have p:∀f,f<w.heap.size->¬(Value.slice r d.links.length s).ownBlock=some f->m≠f:=λf h W e=>by
   rcases i with i|i
   ·rw[e]at i;exact W i
   ·omega
  have H:∀f,ke db bg sv pv (.slice (some ⟨m,0,none⟩) (d.links.length+1) c) f->ke db bg sv pv (.slice r d.links.length s) f\/w.heap.size<=f:=λf h=>by
   rcases h with h|h|h|h|h
   ·exact ae (ae h)
   ·exact ae (af (ae h))
   ·exact ae (af (af (ae h)))
   ·exact ae (af (af (af (ae h))))
   ·have:m=f:=aq h;subst this;rcases i with i|i
    ·exact ae (af (af (af (af i))))
    ·exact af i
  obtain⟨aj,ak,al,av⟩:=g.frame C H;refine⟨C,by rw[u,hp];rfl,λN o=>?_⟩;rw[u,hp]at o;obtain rfl:=aq o;have ar:=C.size;obtain⟨F,ah,ai,G,au⟩:=g.own;have q:=bH z db 5 (.slice (some ⟨m,0,none⟩) (d.links.length+1) c);have aa:∀f,sv.ownBlock=some f->f<w.heap.size:=λf h=>by
   obtain⟨M,B⟩:=dS g.sRow f h;exact(aE.1 B).1
  have X:∀f,pv.ownBlock=some f->f<w.heap.size:=λf h=>by
   obtain⟨M,B⟩:=dS g.pRow f h;exact(aE.1 B).1
  have A:¬(Value.slice r d.links.length s).ownBlock=some bg:=g.apart.2.1.2.2;refine⟨l,bg,bc,sd,sp,sv,pv,_,⟨(mP T).2.2.1 _,⟨F,ah,ai,by omega,by omega⟩,g.bnd,g.tells,λK L v=>⟨?_,aj K L v⟩,λag=>?_,?_,?_,?_,g.sIs,g.pIs,ak,al,⟨⟨g.apart.1.1,g.apart.1.2.1,?_⟩,⟨g.apart.2.1.1,g.apart.2.1.2.1,?_⟩,λf=>⟨λh=>⟨((g.apart.2.2 f).1 h).1,?_⟩,λh=>?_⟩⟩,⟨by omega,by omega,by simp;omega,O⟩⟩,H⟩
  ·exact((g.row K L v).1.kee j G A).kee q (by have:=j.size;omega) (λe=>F e.symm)
  ·have S:(z.setCell ⟨db,5,none⟩ (.slice (some ⟨m,0,none⟩) (d.links.length+1) c)).heap[bg]?=w.heap[bg]? :=(q.block bg (by have:=j.size;omega) (λe=>F e.symm)).trans (j.block bg G A);have I:=g.free ag;unfold World.frozen? at I ⊢;rw[S];exact I
  ·exact aT (aT g.sRow j λf h E=>((g.apart.2.2 f).1 h).2 E) q λf h e=>g.apart.1.1 (by rw[h,e])
  ·exact aT (aT g.pRow j λf h E=>(g.apart.2.2 f).2 h E) q λf h e=>g.apart.1.2.1 (by rw[h,e])
  ·have:=aT Y q λf h e=>p db g.lt g.apart.1.2.2 (by
     have:m=f:=aq h
     rw[this,e])
   simpa using this
  ·exact λe=>p db g.lt g.apart.1.2.2 (aq e)
  ·exact λe=>p bg G A (aq e)
  ·exact λe=>p f (aa f h) (((g.apart.2.2 f).1 h).2) (aq e)
  ·exact λe=>p f (X f h) ((g.apart.2.2 f).2 h) (aq e)
end
end Go.Proofs.YtmbjgiaebneodaaGreat
