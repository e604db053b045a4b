/- What is proved here: plain facts and contracts that the claimed theorem stands on. No condition but those that each names. -/
import Derived.Test.YtnidfceinoiboaaGreatG22
namespace Go.Proofs.YtnidfceinoiboaaGreat
open Go.RowKit
set_option maxRecDepth 100000
set_option maxHeartbeats 2000000
def sn(w:World)(c:Nat)(a b:Int):World:=(w.setCell ⟨c,5,none⟩ (.int .i64 a)).setCell ⟨c,6,none⟩ (.int .i64 b)
def LP(b d e:Nat)(g t1:Int)(t2:ByteArray)(h:Option Addr)(j i:Nat)(s0 s1:Int)(f:ByteArray)(sa:Option Addr)(sl sc:Nat)(W:World):Prop:=
 W.heap[d]?=some (.cells #[.int .i64 g,.int .i64 t1,.string t2,.slice h j i] 30)/\W.heap[e]?=some (.cells #[.int .i64 s0,.int .i64 s1,.string f,.slice sa sl sc] 30)/\(∃a,W.cell? ⟨b,5,none⟩=some (.int .i64 a))/\(∃a,W.cell? ⟨b,6,none⟩=some (.int .i64 a))/\∀c,W.frozen? ⟨b,c,none⟩=false
theorem xT(m t1:Int)(t2:ByteArray)(n:Option Addr)(q o:Nat)(c:Nat)(w:World)(S:Int->Int->ByteArray->Option Addr->Nat->Nat->World->Prop)(P1:World->Wd->Int->World->Prop)(R:Bool->World->Prop)(aF:Hid (∀W,Below w.heap.size w W->Calls Tryz.prog 24 #[.pointer (some ⟨c,0,none⟩)] W λe w'=>∃s0 s1 h sa sl sc,e=.returned (.agg #[.int .i64 s0,.int .i64 s1,.string h,.slice sa sl sc])/\Hid (Below W.heap.size W w'/\S s0 s1 h sa sl sc w')))(az:Hid (∀W,Below w.heap.size w W->(∃a,W.cell? ⟨c,5,none⟩=some (.int .i64 a))/\(∃a,W.cell? ⟨c,6,none⟩=some (.int .i64 a))/\(∀j,W.frozen? ⟨c,j,none⟩=false)/\c<w.heap.size))(aD:Hid (∀s0 s1 h sa sl sc al I g i,S s0 s1 h sa sl sc al->Below al.heap.size al I->Below w.heap.size w I->w.heap.size<=g->w.heap.size<=i->LP c g i m t1 t2 n q o s0 s1 h sa sl sc (sn I c 1 0)->Calls Tryz.prog 95 #[.pointer (some ⟨c,0,none⟩),.agg #[.int .i64 m,.int .i64 t1,.string t2,.slice n q o]] (sn I c 1 0) λe w'=>∃(v:Wd)(s:Int),e=.returned (.tuple #[.agg #[.int .i64 v.1,.int .i64 v.2],.int .i64 s])/\Hid (LP c g i m t1 t2 n q o s0 s1 h sa sl sc w'/\P1 I v s w'/\ (s=0->∀W,Below w'.heap.size w' W->R true (sn W c v.1 v.2))/\ (s≠0->∀W d,Below w'.heap.size w' W->w'.heap.size<=d->d<W.heap.size->Calls Tryz.prog 95 #[.pointer (some ⟨c,0,none⟩),.agg #[.int .i64 s0,.int .i64 s1,.string h,.slice sa sl sc]] W λe M=>∃(v2:Wd)(aM:Int),e=.returned (.tuple #[.agg #[.int .i64 v2.1,.int .i64 v2.2],.int .i64 aM])/\Hid ((∀a1,W.heap[d]?=some a1->M.heap[d]?=some a1)/\((∃a,M.cell? ⟨c,5,none⟩=some (.int .i64 a))/\(∃a,M.cell? ⟨c,6,none⟩=some (.int .i64 a))/\∀j,M.frozen? ⟨c,j,none⟩=false)/\∀aL,bf (λb=>b=d) M aL->R false (sn aL c v2.1 v2.2)))))):Calls Tryz.prog 90 #[.pointer (some ⟨c,0,none⟩),.agg #[.int .i64 m,.int .i64 t1,.string t2,.slice n q o]] w λe w'=>∃t,e=.returned (.bool t)/\Hid (R t w'):=by
 have aH:Hid (∃aa l,(aa=w.alloc (.cells #[.int .i64 m,.int .i64 t1,.string t2,.slice n q o] 30)/\l=w.heap.size)/\Below w.heap.size w aa/\aa.heap[l]?=some (.cells #[.int .i64 m,.int .i64 t1,.string t2,.slice n q o] 30)/\w.heap.size<=l):=⟨_,_,⟨rfl,rfl⟩,(ah _ _).alloc (ag _) _,ax _ _,ag _⟩;go_enter Tryz.func90,Tryz.ntmps90;go_wp2_with fail;obtain⟨aa,g,⟨aX,aW⟩,aO,K,aT⟩:=aH.out;rw[<-aX,<-aW];have ad:=ai aO;have y:=ai K;have aA:=ai aT;clear aX aW aO K aT aH;refine(aF.out _ ad.out).mono ?_;rintro e N ⟨s0,s1,h,sa,sl,sc,rfl,O⟩;have Q:=ai (ad.out.trans (O.out.1.mono ad.out.size));have aI:Hid (∃k l,(k=N.alloc (.cells #[.int .i64 s0,.int .i64 s1,.string h,.slice sa sl sc] 30)/\l=N.heap.size)/\Below N.heap.size N k/\k.heap[l]?=some (.cells #[.int .i64 s0,.int .i64 s1,.string h,.slice sa sl sc] 30)/\w.heap.size<=l/\k.heap[g]?=some (.cells #[.int .i64 m,.int .i64 t1,.string t2,.slice n q o] 30)):=by
  have a9:=(aE.1 y.out).1;have aN:=(O.out.1.block g a9).trans y.out;exact⟨_,_,⟨rfl,rfl⟩,(ah _ _).alloc (ag _) _,ax _ _,Q.out.size,(((ah _ _).alloc (ag _) _).block g (aE.1 aN).1).trans aN⟩
 have aG:=ai O.out.2;clear O aF y;go_upto_region 2 with fail;obtain⟨k,i,⟨aY,u⟩,ar,aQ,aU,K⟩:=aI.out;rw[<-aY,<-u];have af:=ai (Q.out.trans (ar.mono Q.out.size));have ay:=ai ar;have ak:=ai aQ;have y:=ai K;have aB:=ai aU;clear aY u ar aQ aU K aI;obtain⟨⟨bh,a4⟩,⟨bi,a5⟩,V,bm⟩:=az.out k af.out;have am:=V 5;have an:=V 6;have x:Hid (LP c g i m t1 t2 n q o s0 s1 h sa sl sc (sn k c 1 0)):=by
  have aS:bf (λb=>b=c) k (sn k c 1 0):=bf.trans (bH k c 5 _) (bH _ c 6 _) λ_ _ e=>e;refine⟨(aS.block g (aE.1 y.out).1 (by have:=aA.out;omega)).trans y.out,(aS.block i (aE.1 ak.out).1 (by have:=aB.out;omega)).trans ak.out,⟨1,?_⟩,⟨0,?_⟩,λj=>?_⟩
  ·exact(dm 5 (by decide)).trans (ja _ _ _ a4)
  ·exact ja _ _ _ ((dm 6 (by decide)).trans a5)
  ·unfold sn;rw[fR,fR];exact V j
 have aj:=ai (aD.out s0 s1 h sa sl sc N k g i aG.out ay.out af.out aA.out aB.out x.out);clear aD V az;go_upto_region 3 with fail;obtain⟨G,Y⟩:∃G,G=sn k c 1 0:=⟨_,rfl⟩;rw[<-Y]at aj x;unfold sn at Y;rw[<-Y];have bc:G.cell? ⟨g,0,none⟩=some (.int .i64 m):=ab x.out.1 0;have bd:G.cell? ⟨g,1,none⟩=some (.int .i64 t1):=ab x.out.1 1;have be:G.cell? ⟨g,2,none⟩=some (.string t2):=ab x.out.1 2;have bg:G.cell? ⟨g,3,none⟩=some (.slice n q o):=ab x.out.1 3;clear Y a4 a5 am an y ak af ay Q aG x;go_wp2_with fail;refine aj.out.mono ?_;rintro e B ⟨v,s,rfl,r⟩;have aJ:Hid (∃f l,(f=B.alloc (.cells #[.int .i64 v.1,.int .i64 v.2] 125)/\l=B.heap.size)/\Below B.heap.size B f/\f.heap[l]?=some (.cells #[.int .i64 v.1,.int .i64 v.2] 125)/\B.heap.size<=l):=⟨_,_,⟨rfl,rfl⟩,(ah _ _).alloc (ag _) _,ax _ _,ag _⟩;go_upto_region 4 with fail;obtain⟨f,d,⟨aZ,A⟩,aP,aR,aV⟩:=aJ.out;rw[<-aZ,<-A];have E:=ai aP;have U:=ai aR;have aC:=ai aV;clear aZ A aP aR aV aJ bc bd be bg aj;have T:Hid (c<B.heap.size):=by
  obtain⟨a,aq⟩:=r.out.1.2.2.1;exact jX B ⟨c,5,none⟩ aq
 have a6:Hid ((∃a,f.cell? ⟨c,5,none⟩=some (.int .i64 a))/\(∃a,f.cell? ⟨c,6,none⟩=some (.int .i64 a))/\∀j,f.frozen? ⟨c,j,none⟩=false):=by
  obtain⟨_,_,⟨a,aq⟩,⟨b,a8⟩,z⟩:=r.out.1;refine⟨⟨a,(E.out.cell (p:=⟨c,5,none⟩) T.out).trans aq⟩,⟨b,(E.out.cell (p:=⟨c,6,none⟩) T.out).trans a8⟩,λj=>?_⟩;have z:=z j;unfold World.frozen? at z ⊢;rw[E.out.block c T.out];exact z
 have bj:f.cell? ⟨d,0,none⟩=some (.int .i64 v.1):=ab U.out 0;have bk:f.cell? ⟨d,1,none⟩=some (.int .i64 v.2):=ab U.out 1;by_cases J:s=0
 ·have H:=ai (r.out.2.2.1 J f E.out);unfold sn at H;obtain⟨⟨a,Z⟩,⟨b,av⟩,F⟩:=a6.out;have am:=F 5;have an:=F 6;clear F r;subst J;go_wp2_with fail
  go_ret
  exact⟨true,rfl,H.out⟩
 ·have bl:¬(0:Int)=s:=λe=>J e.symm;have a7:=ai (r.out.2.2.2 J f d E.out aC.out (aE.1 U.out).1);have u:=(E.out.block i (aE.1 r.out.1.2.1).1).trans r.out.1.2.1;have bp:f.cell? ⟨i,0,none⟩=some (.int .i64 s0):=ab u 0;have bq:f.cell? ⟨i,1,none⟩=some (.int .i64 s1):=ab u 1;have br:f.cell? ⟨i,2,none⟩=some (.string h):=ab u 2;have bs:f.cell? ⟨i,3,none⟩=some (.slice sa sl sc):=ab u 3;clear u r;go_wp2_with fail;refine a7.out.mono ?_;rintro e C ⟨v2,aM,rfl,P⟩;have A:=P.out.1 _ U.out;have a2:C.cell? ⟨d,0,none⟩=some (.int .i64 v.1):=ab A 0;have a3:C.cell? ⟨d,1,none⟩=some (.int .i64 v.2):=ab A 1;have aw:∀j,C.frozen? ⟨d,j,none⟩=false:=λj=>by simp[World.frozen?,A]
  have ba:=aw 0;have bb:=aw 1;have aK:Hid (∃D,D=(C.setCell ⟨d,0,none⟩ (.int .i64 v2.1)).setCell ⟨d,1,none⟩ (.int .i64 v2.2)/\(D.cell? ⟨d,0,none⟩=some (.int .i64 v2.1)/\D.cell? ⟨d,1,none⟩=some (.int .i64 v2.2))/\bf (λb=>b=d) C D):=by
   refine⟨_,rfl,⟨?_,?_⟩,bf.trans (bH C d 0 _) (bH _ d 1 _) λ_ _ e=>e⟩
   ·exact(dm 0 (by decide)).trans (ja _ _ _ a2)
   ·exact ja _ _ _ ((dm 1 (by decide)).trans a3)
  clear aw A;go_upto_region 6 with fail;obtain⟨D,a0,⟨y0,y1⟩,L⟩:=aK.out;rw[<-a0];have H:=ai (P.out.2.2 D L);unfold sn at H;obtain⟨⟨a,Z⟩,⟨b,av⟩,F⟩:=P.out.2.1;have X:=jX C ⟨c,5,none⟩ Z;have au:c≠d:=by have:=T.out;have:=aC.out;omega
  have bn:=(L.cell 5 X au).trans Z;have bo:=(L.cell 6 X au).trans av;have ap:∀j,D.frozen? ⟨c,j,none⟩=false:=λj=>by
   have z:=F j;unfold World.frozen? at z ⊢;rw[L.block c X au];exact z
  have am:=ap 5;have an:=ap 6;clear a0 aK L Z av F ap P a2 a3 ba bb X;go_wp2_with fail;exact ao (v:=.bool (s==0)) (by simp[results,Tryz.results90,go_sem]) rfl (ae ⟨bF (by simpa using J),H.out⟩)
def kw(n m:Nat):Option (Tm n)->Option (Tm m)->Prop
 | none,none=>True
 | some x,some y=>aw n x m y=true
 | _,_=>False
theorem tV{n m k l:Nat}{o:Option (Tm n)}{p:Option (Tm m)}{f:Tm n->Option (Tm k)}{g:Tm m->Option (Tm l)}(a:kw n m o p)(b:∀x y,aw n x m y=true->kw k l (f x) (g y)):kw k l (o.bind f) (p.bind g):=by
 cases o with
 | none=>
  cases p with
  | none=>trivial
  | some _=>exact a.elim
 | some x=>
  cases p with
  | none=>exact a.elim
  | some y=>exact b x y a
theorem oO{n m N M:Nat}(c:n<=N)(b:m<=M){x:Tm n}{y:Tm m}(d:aB ⟨n,x⟩)(e:aB ⟨m,y⟩)(a:aw n x m y=true):aw N (aI N n x) M (aI M m y)=true:=
 bP _ _ _ _ _ _ (gd N n c x d) (bP _ _ _ _ _ _ a (dU _ _ _ _ (gd M m b y e)))
theorem oK:(n:Nat)->(x:Tm n)->(m:Nat)->(y:Tm m)->aw n x m y=true->bE ⟨n,x⟩=bE ⟨m,y⟩/\om n x=om m y
 | 0,_,_,_,h=>by simp[aw]at h
 | _+1,_,0,_,h=>by simp[aw]at h
 | n+1,x,m+1,y,h=>by
  simp only[aw,az,ci]at h;exact⟨h.1.1.1,h.1.1.2⟩
theorem Ev{N M:Nat}{a c:Tm N}{b d:Tm M}(h:aw N a M b=true)(i:aw N c M d=true):kw (N+1) (M+1) (rU N a c) (rU M b d):=by
 have e:=oK _ _ _ _ h;have f:=oK _ _ _ _ i;have g:xt N a c=xt M b d:=by
  unfold xt;rw[e.1,e.2,f.1,f.2]
 unfold rU;rw[<-g,<-e.2,<-f.2];cases xt N a c
 ·simp[kw]
 ·simp[kw,aw,aS,av]
theorem sG{i:Type}{N M:Nat}(f:i->Option (Tm N))(g:i->Option (Tm M)):(p:List i)->(∀a∈p,kw N M (f a) (g a))->kw (N+1) (M+1) ((cF f p).map (cM N)) ((cF g p).map (cM M))/\((cF f p=none/\cF g p=none)\/∃l r,cF f p=some l/\cF g p=some r/\av (λx y=>aw N x M y) l r=true)
 | [],_=>⟨by simp[cF,kw,aw,cM,av],af ⟨[],[],rfl,rfl,rfl⟩⟩
 | a::p,h=>by
  have b:=h a (by simp);have m:=(sG f g p λx n=>h x (by simp[n])).2;simp only[cF];cases e1:f a with
  | none=>
   rw[e1]at b;cases c:g a with
   | none=>simp[kw]
   | some _=>rw[c]at b;exact b.elim
  | some u=>
   rw[e1]at b;cases c:g a with
   | none=>rw[c]at b;exact b.elim
   | some v=>
    rw[c]at b;have j:aw N u M v=true:=b;rcases m with⟨d,e⟩|⟨l,r,d,e,k⟩
    ·rw[d,e];simp[kw]
    ·rw[d,e];exact⟨by simp[kw,aw,cM,av,j,k],af ⟨u::l,v::r,rfl,rfl,by simp[av,j,k]⟩⟩
theorem qe(m:Nat)(b:List (Tm m))(f:Nat)(a:List (Tm f))(self:Int)(i:av (λx y=>aw m x f y) b a=true)(p:∀y∈b,aB ⟨m,y⟩)(q:∀y∈a,aB ⟨f,y⟩):(n:Nat)->(x:Tm n)->aB ⟨n,x⟩->kw (m+n) (f+n) (vl m b self n x) (vl f a self n x)
 | 0,_,_=>trivial
 | n+1,x,hx=>by
  have z:=cV _ _ _ i;have w:aw (n+1) x (n+1) x=true:=gf _ _ hx;unfold vl;by_cases k:x.1.1=5
  ·rw[if_pos k,if_pos k];cases e:b[x.1.2.1.toNat]? with
   | none=>
    have g:a[x.1.2.1.toNat]?=none:=by
     rw[List.getElem?_eq_none_iff]at e ⊢;omega
    rw[g];trivial
   | some y=>
    obtain⟨u,_⟩:=aK.1 e;have g:a[x.1.2.1.toNat]?=some a[x.1.2.1.toNat]:=aA (by omega);rw[g];have s:aw m y f a[x.1.2.1.toNat]=true:=ku _ _ _ i _ _ _ e g;simp only[dk];rw[<-(oK _ _ _ _ s).1];by_cases d:bE ⟨m,y⟩=6
    ·rw[if_pos d,if_pos d];trivial
    ·rw[if_neg d,if_neg d];exact oO (by omega) (by omega) (p y (ay e)) (q _ (ay g)) s
  ·rw[if_neg k,if_neg k];by_cases d:x.1.1=6
   ·rw[if_pos d,if_pos d];trivial
   ·rw[if_neg d,if_neg d];by_cases j:x.1.1=4
    ·rw[if_pos j,if_pos j];by_cases r:rs n x.2.2 ni 0=true
     ·rw[if_pos r,if_pos r];simp[kw,aw,aS,av]
     ·rw[if_neg r,if_neg r];by_cases l:rs n x.2.2 qU 2=true
      ·rw[if_pos l,if_pos l];cases e1:x.2.2[1]? with
       | none=>trivial
       | some h=>
        cases g:x.2.2[2]? with
        | none=>trivial
        | some c=>
         simp only[dk];exact tV (qe m b f a self i p q n h (aU n x h hx (ay e1))) λA C u=>tV (qe m b f a self i p q n c (aU n x c hx (ay g))) λB D v=>Ev u v
      ·rw[if_neg l,if_neg l];by_cases o:rs n x.2.2 qV 1=true
       ·rw[if_pos o,if_pos o];cases e1:x.2.2[1]? with
        | none=>trivial
        | some h=>
         have t:=aU n x h hx (ay e1);simp only[dk];cases aF n h
         ·simp[kw]
         ·exact oO (by omega) (by omega) t t (gf _ _ t)
       ·rw[if_neg o,if_neg o];exact(sG _ _ x.2.2 λy s=>qe m b f a self i p q n y (aU n x y hx s)).1
    ·rw[if_neg j,if_neg j];exact oO (by omega) (by omega) hx hx w
def Hw:(D:Nat)->(n:Nat)->Tm n->Tm D
 | 0,_,_=>()
 | _+1,0,_=>((0,0,.empty),(none,0),[])
 | D+1,n+1,x=>(x.1,(none,0),x.2.2.map λy=>Hw D n y)
theorem Fj:(D:Nat)->(n:Nat)->(x:Tm n)->(m:Nat)->(y:Tm m)->aw n x m y=true->Hw D n x=Hw D m y
 | 0,_,_,_,_,_=>rfl
 | D+1,0,_,_,_,h=>by simp[aw]at h
 | D+1,n+1,_,0,_,h=>by simp[aw]at h
 | D+1,n+1,x,m+1,y,h=>by
  obtain⟨c,d⟩:=bq h;have e:=jG _ (λa=>Hw D n a) (λb=>Hw D m b) _ _ (λa _ b f=>Fj D n a m b f) d;simp only[Hw,c,e];rfl
theorem yv{n:Nat}:(l:List (Tm n))->(m:Int)->m<=l.foldl (λm y=>max m (eW n y)) m/\∀y∈l,eW n y<=l.foldl (λm y=>max m (eW n y)) m
 | [],m=>⟨il _,λy b=>by simp at b⟩
 | a::l,m=>by
  obtain⟨d,c⟩:=yv l (max m (eW n a));simp only[gK];refine⟨by omega,λy b=>?_⟩;rcases br.1 b with rfl|b
  ·omega
  ·exact c y b
theorem mL{n:Nat}{x:Tm (n+1)}(e:aB ⟨n+1,x⟩){y:Tm n}(c:y∈x.2.2):eW n y+1<=eW (n+1) x:=by
 have d:x.1.1=4:=by
  have b:=e _ (nU ..);simp only[bT,az,gI,ci,nO,decide_eq_false_iff_not]at b;rcases b.2 with a|a
  ·exact a
  ·have:=List.length_pos_of_mem c;omega
 have:=(yv x.2.2 0).2 y c;simp only[eW,if_pos d];omega
theorem xW:(D:Nat)->(n:Nat)->(x:Tm n)->aB ⟨n,x⟩->eW n x<D->aw D (Hw D n x) n x=true
 | _,0,_,h,_=>(cX h).elim
 | 0,n+1,x,_,h=>by
  have:=(fB (n+1) x).1;omega
 | D+1,n+1,x,hr,h=>bX rfl (ib _ _ _ λy a=>xW D n y (aU n x y hr a) (by
  have:=mL hr a
  omega))
theorem iF:(D:Nat)->(n:Nat)->(x:Tm n)->aB ⟨n,x⟩->eW n x<D->aw D (aI D n x) n x=true
 | _,0,_,h,_=>(cX h).elim
 | 0,n+1,x,_,h=>by
  have:=(fB (n+1) x).1;omega
 | D+1,n+1,x,hr,h=>bX rfl (ib _ _ _ λy a=>iF D n y (aU n x y hr a) (by
  have:=mL hr a
  omega))
theorem F9(D n:Nat)(x:Tm n)(w:World)(b o:Nat)(g:0<D)(k:dr w b o n x):dr w b o D (aI D n x):=by
 cases n with
 | zero=>exact k.elim
 | succ n=>
  obtain⟨D,rfl⟩:∃a,D=a+1:=⟨D-1,by omega⟩;obtain⟨c,d,e,f⟩:=k;exact⟨c,d,e,by simpa [aI]using f⟩
theorem qH:(D n:Nat)->(x:Tm n)->(B:Nat)->(w:World)->aB ⟨n,x⟩->eW n x<D->In B w n x->In B w D (aI D n x)
 | _,0,_,_,_,_,_,k=>k.elim
 | 0,n+1,x,_,_,_,h,_=>by
  have:=(fB (n+1) x).1;omega
 | D+1,n+1,x,B,w,hr,h,k=>by
  obtain⟨j,a⟩:=k;refine⟨by simpa [aI]using j,?_⟩;rcases a with a|⟨b,o,e,g,a⟩
  ·exact ae (by simp[aI,a])
  ·refine af ⟨b,o,e,g,λi y f=>?_⟩;simp only[aI,dh]at f;obtain⟨z,c,rfl⟩:=cD.1 f;have d:=ay c;have m:=mL hr d;have l:=(fB n z).1;exact⟨F9 D n z w b _ (by omega) (a i z c).1,qH D n z B w (aU n x z hr d) (by omega) (a i z c).2⟩
theorem wL(D n:Nat)(x:Tm (n+1)):dg (D+1) (aI (D+1) (n+1) x)=dg (n+1) x:=by
 simp[dg,aI]
theorem sf:(D n:Nat)->(x:Tm n)->(P:Nat->Prop)->aB ⟨n,x⟩->eW n x<D->ch P n x->ch P D (aI D n x)
 | _,0,_,_,h,_,_=>(cX h).elim
 | 0,n+1,x,_,_,h,_=>by
  have:=(fB (n+1) x).1;omega
 | D+1,n+1,x,P,hr,h,k=>by
  rcases k with k|⟨b,o,e,f,k⟩
  ·exact ae (by simp[aI,k])
  ·refine af ⟨b,o,e,f,λi y c=>?_⟩;simp only[aI,dh]at c;obtain⟨z,d,rfl⟩:=cD.1 c;have a:=ay d;have g:=mL hr a;exact sf D n z P (aU n x z hr a) (by omega) (k i z d)
abbrev Tc:Type:=Tm 13
def cn(n:Nat)(x:Tm n):Tc:=Hw 13 n x
theorem gw{n m:Nat}{x:Tm n}{y:Tm m}(a:aw n x m y=true):cn n x=cn m y:=Fj 13 n x m y a
theorem eL{n:Nat}{x:Tm n}(a:bA n x=0):aw 13 (cn n x) n x=true:=by
 obtain⟨b,c,_⟩:=bv.1 a;exact xW 13 n x (aJ.2 b) (by omega)
theorem Ix{n:Nat}{x:Tm n}(a:bA n x=0):cn 13 (cn n x)=cn n x:=gw (eL a)
theorem AG{n:Nat}{x:Tm n}(a:bA n x=0):bA 13 (cn n x)=0:=by rw[bI (eL a),a]
theorem Cm{n:Nat}{x:Tm n}(a:bA n x=0):sz 13 (cn n x)=sz n x:=kO _ _ _ _ (eL a)
theorem qx{n:Nat}{x:Tm n}(a:bA n x=0):aF 13 (cn n x)=aF n x:=cw _ _ _ _ (eL a)
theorem BB{n m:Nat}{x:Tm n}{y:Tm m}(c:bA n x=0)(d:bA m y=0)(b:cn n x=cn m y):aw n x m y=true:=by
 have a:=dU _ _ _ _ (eL c);rw[b]at a;exact bP _ _ _ _ _ _ a (eL d)
theorem L8{n m:Nat}:(p:List (Tm n))->(q:List (Tm m))->av (λx y=>aw n x m y) p q=true->p.map (cn n)=q.map (cn m):=λp q a=>jG _ _ _ p q (λ_ _ _ b=>gw b) a
def qt:List An:=mE 1 (List.replicate 4 dG)
def Lq(a:An):Tc:=cn a.1 a.2
def lW{n:Nat}(c:Cl (n+1))(s m:Tc):Option (List Tc):=(fY (n+1) c.1.1 13 s qt).bind λb=>(fY (n+1) c.1.2.1 13 m b).map λa=>a.map Lq
def oh{n:Nat}(s m:Tc):List (Cl (n+1))->Option (Cl (n+1)×List Tc)
 | []=>none
 | c::l=>match lW c s m with
  | some b=>some (c,b)
  | none=>oh s m l
def uQ{n:Nat}(l:List (Cl (n+1)))(s:Tc):List Tc->Nat->Option (Nat×Cl (n+1)×List Tc)
 | [],_=>none
 | m::ms,i=>match oh s m l with
  | some x=>some (i,x)
  | none=>uQ l s ms (i+1)
theorem DS{x y:An}(a:dR x y=true)(d:ES y):ES x:=by
 obtain⟨b,c⟩:=d;refine⟨(bI a).trans b,?_⟩;rw[tm a,cw _ _ _ _ a];exact c
theorem qP{d g:Type}(f:d->g->Bool):(p:List d)->(q:List g)->av f p q=true->∀x∈p,∃y∈q,f x y=true
 | [],_,_,x,c=>by simp at c
 | _::_,[],h,_,_=>by simp[av]at h
 | a::p,b::q,h,x,c=>by
  simp only[av,az]at h;rcases br.1 c with rfl|c
  ·exact⟨b,by simp,h.1⟩
  ·obtain⟨y,i,e⟩:=qP f p q h.2 x c;exact⟨y,bR _ i,e⟩
theorem DT{p q:List An}(a:av dR p q=true)(b:∀y∈q,ES y):∀x∈p,ES x:=λx c=>by
 obtain⟨y,d,e⟩:=qP _ _ _ a x c;exact DS e (b y d)
theorem qs{n:Nat}:(l:List (Tm n))->(b:List An)->(∀y∈b,aB y/\y.1<=n)->av (λx y=>aw n x n y) l (b.map λa=>aI n a.1 a.2)=true->av dR (mE n l) b=true
 | [],[],_,_=>rfl
 | [],_::_,_,h=>by simp[av]at h
 | _::_,[],_,h=>by simp[av]at h
 | x::l,a::b,hb,h=>by
  simp only[aH,av,az]at h;simp only[mE,aH,av,az];obtain⟨c,d⟩:=hb a (by simp);exact⟨bP _ _ _ _ _ _ h.1 (gd n a.1 d a.2 c),qs l b (λy e=>hb y (bR _ e)) h.2⟩
theorem JI{p q:List An}(a:av dR p q=true):p.map Lq=q.map Lq:=jG _ _ _ p q (λ_ _ _ b=>gw b) a
theorem Aw:av dR qt qt=true:=by
 refine kv _ _ λa b=>?_;exact gf _ _ (pQ (Ax a b))
theorem JJ{n:Nat}{x:Tm n}(a:bA n x=0)(b:aF n x=true):ES ⟨n,x⟩:=⟨a,af b⟩
theorem ch.both{P Q:Nat->Prop}:{n:Nat}->{x:Tm n}->ch P n x->ch Q n x->ch (λb=>P b/\Q b) n x
 | 0,_,p,_=>p
 | _+1,_,p,k=>by
  rcases p with p|⟨b,o,e,g,p⟩
  ·exact ae p
  ·rcases k with k|⟨j,l,a,h,k⟩
   ·exact ae k
   ·rw[e]at a;injection a with a;injection a with d f;subst d f;exact af ⟨b,o,e,⟨g,h⟩,λi y c=>(p i y c).both (k i y c)⟩
structure pn (D:Nat) (l:List (Tm D)) (B:List Tc) (b0:Nat) (w':World) (bg bc:Nat):Prop where
 bnd:fG D l=true
 tells:l.map (cn D)=B
 cap:4<=bc/\bc<=maxLen
 new:b0<=bg/\bg<w'.heap.size
 at':∀(i:Nat)(y:Tm D),l[i]?=some y->dr w' bg (i*4) D y/\In w'.heap.size w' D y/\ch (λq=>b0<=q/\q≠bg) D y
 free:∀j,w'.frozen? ⟨bg,j,none⟩=false
def JF{n:Nat}(c:Cl (n+1))(s m:Tc)(w:World)(e:Ending)(w':World):Prop:=
 ∃b len f g,e=.returned (.tuple #[.slice b len f,.bool g])/\Hid (Below w.heap.size w w'/\g=(lW c s m).isSome/\∀a,lW c s m=some a->len=4/\∃h l d,b=some ⟨d,0,none⟩/\pn h l a w.heap.size w' d f)
theorem FF{n m k:Nat}(c:Cl (n+1))(s:Tm (m+1))(t:Tm (k+1))(R:bA (n+1) c.1.1=0)(S:bA (n+1) c.1.2.1=0)(A:bA (m+1) s=0)(T:aF (m+1) s=true)(B:bA (k+1) t=0)(U:aF (k+1) t=true){w w':World}{e:Ending}(Q:EW (fY (n+1) c.1.1 (m+1) s qt) (fY (n+1) c.1.2.1 (k+1) t) w e w'):JF c (cn (m+1) s) (cn (k+1) t) w e w':=by
 obtain⟨K,len,P,ap,rfl,J⟩:=Q;obtain⟨V,Z,ae⟩:=J.out;refine⟨K,len,P,ap,rfl,V,?_⟩;have f:=qB (n+1) c.1.1 (m+1) s (n+1) c.1.1 13 (cn (m+1) s) qt qt (gf _ _ (aJ.2 (bv.1 R).1)) (dU _ _ _ _ (eL A)) Aw;cases e1:fY (n+1) c.1.1 (m+1) s qt with
 | none=>
  rw[e1]at f;cases e2:fY (n+1) c.1.1 13 (cn (m+1) s) qt with
  | some _=>
   rw[e2]at f;exact f.elim
  | none=>
   have j:lW c (cn (m+1) s) (cn (k+1) t)=none:=by simp[lW,e2]
   rw[j];exact⟨Z e1,λz i=>by cases i⟩
 | some b=>
  rw[e1]at f;cases e2:fY (n+1) c.1.1 13 (cn (m+1) s) qt with
  | none=>
   rw[e2]at f;exact f.elim
  | some q=>
   rw[e2]at f;have r:=mO ES tL (n+1) c.1.1 (m+1) s (JJ A T) qt b ⟨by simp[qt,mE],Ax⟩ e1;obtain⟨o,X,aa,af⟩:=ae b e1;have p:av dR (mE (lQ b) o) b=true:=qs o b (λa d=>⟨pQ (r.2 a d),xz b a d⟩) X;have L:av dR (mE (lQ b) o) q=true:=mY dR dR dR _ _ _ (λH _ a I aj G=>bP H.1 H.2 a.1 a.2 I.1 I.2 aj G) p f;have g:=qB (n+1) c.1.2.1 (k+1) t (n+1) c.1.2.1 13 (cn (k+1) t) _ _ (gf _ _ (aJ.2 (bv.1 S).1)) (dU _ _ _ _ (eL B)) L;cases e3:fY (n+1) c.1.2.1 (k+1) t (mE (lQ b) o)with
   | none=>
    rw[e3]at g;cases e4:fY (n+1) c.1.2.1 13 (cn (k+1) t) q with
    | some _=>
     rw[e4]at g;exact g.elim
    | none=>
     have j:lW c (cn (m+1) s) (cn (k+1) t)=none:=by simp[lW,e2,e4]
     rw[j];exact⟨aa e3,λz i=>by cases i⟩
   | some h=>
    rw[e3]at g;cases e4:fY (n+1) c.1.2.1 13 (cn (k+1) t) q with
    | none=>
     rw[e4]at g;exact g.elim
    | some N=>
     rw[e4]at g;have j:lW c (cn (m+1) s) (cn (k+1) t)=some (N.map Lq):=by simp[lW,e2,e4]
     rw[j];obtain⟨ah,ai,E,aw,l,aq,F⟩:=af h e3;refine⟨ah,λz i=>⟨ai,lQ h,l,?_⟩⟩;cases i;have ab:=DT p r.2;have Y:(mE (lQ b) o).length=4:=by rw[cV _ _ _ p];exact r.1
     have C:=mO ES tL (n+1) c.1.2.1 (k+1) t (JJ B U) _ h ⟨Y,ab⟩ e3;have D:∀a∈h,aB a:=λa d=>pQ (C.2 a d);obtain⟨_,v,ag,_⟩:=Cp F D E;have W:=vH C.2 v E ag;obtain⟨_,_,ar,ak,al,x⟩:=F;rcases x with x|⟨O,bo,rfl,⟨au,rfl,an,ao⟩,am,y⟩
     ·rw[x]at v;simp at v
     ·refine⟨O,rfl,W,?_,⟨by omega,ak⟩,⟨by omega,am⟩,λu a d=>⟨?_,(y u a d).2.1,(ch.both (y u a d).2.2 (ao a (ay d))).mono λG ad=>⟨by omega,ad.2⟩⟩,an⟩;rotate_left
      ·have:=(y u a d).1;rw[cU]at this;exact this
      have M:av dR (mE (lQ h) l) h=true:=qs l h (λa d=>⟨D a d,xz h a d⟩) al;rw[<-JI g,<-JI M];simp[mE,Lq]
theorem D8{n m k:Nat}(c:Cl (n+1))(s:Tm (m+1))(t:Tm (k+1))(B:Nat)(w:World)(i:gj (n+1) B w c)(j:In B w (m+1) s)(l:In B w (k+1) t)(h:B<=w.heap.size)(a:bA (n+1) c.1.1=0)(b:bA (n+1) c.1.2.1=0)(d:bA (m+1) s=0)(e:aF (m+1) s=true)(f:bA (k+1) t=0)(g:aF (k+1) t=true):Calls Tryz.prog 87 #[.agg (ex (n+1) c).toArray,dg (m+1) s,dg (k+1) t] w (JF c (cn (m+1) s) (cn (k+1) t) w):=
 (D7 n m k c s t B w i j l h a b d (by rw[<-eT];exact e) f (by rw[<-eT];exact g)).mono λ_ _ o=>FF c s t a b d e f g o
theorem kM:(N n:Nat)->n<=N->(x:Tm n)->aF N (aI N n x)=aF n x
 | 0,0,_,_=>rfl
 | _+1,0,_,_=>by simp[aI,aF]
 | 0,n+1,h,_=>by omega
 | N+1,n+1,h,x=>by
  have:(x.2.2.map λy=>aI N n y).all (λy=>aF N y)=x.2.2.all λy=>aF n y:=by
   rw[List.all_map];congr 1;funext y;exact kM N n (by omega) y
  simp only[aF,aI];rw[this]
theorem vK(m:Nat)(b:List (Tm m))(self:Int)(j:∀y∈b,bE ⟨m,y⟩=6\/aF m y=true):(n:Nat)->(x:Tm n)->aB ⟨n,x⟩->(z:Tm (m+n))->vl m b self n x=some z->aF (m+n) z=true
 | 0,_,_,_,d=>by simp[vl]at d
 | n+1,x,hr,z,d=>by
  have o:=eh (bm n x) (hr (bm n x) (by simp[aq,bm]));by_cases g:x.1.1=6
  ·rw[Hh m b self n x g]at d;cases d
  ·by_cases f:x.1.1=5
   ·simp only[vl,f,cI]at d;obtain⟨y,h,d⟩:=bz.1 d;split at d
    ·cases d
    ·rename_i s;obtain rfl:=ap d;exact(kM (m+n+1) m (by omega) y).trans ((j y (ay h)).resolve_left s)
   ·by_cases e:x.1.1=4
    ·rw[Hi m b self n x e]at d;unfold uH at d;split at d
     ·obtain rfl:=ap d;simp[aS,aF]
     ·split at d
      ·obtain⟨a,p,d⟩:=bz.1 d;obtain⟨c,D,d⟩:=bz.1 d;obtain⟨A,C,d⟩:=bz.1 d;obtain⟨B,E,d⟩:=bz.1 d;unfold rU at d;split at d
       ·obtain rfl:=ap d;simp[aS,aF]
       ·cases d
      ·split at d
       ·obtain⟨a,p,d⟩:=bz.1 d;split at d
        ·rename_i q;obtain rfl:=ap d;exact(kM (m+n+1) n (by omega) a).trans q
        ·cases d
       ·obtain⟨l,t,rfl⟩:=cD.1 d;obtain⟨v,w⟩:=pw _ _ _ t;show aF (m+n+1) (cM (m+n) l)=true;simp only[aF,cM];simp only[az,bS];refine⟨by decide,λy h=>?_⟩;obtain⟨i,k⟩:=cB h;have r:i<x.2.2.length:=by rw[<-v];exact(aK.1 k).1
        exact vK m b self j n x.2.2[i] (aU n x _ hr (iS _)) y (w i _ y (aA r) k)
    ·rw[CV m b self n x e f g]at d;obtain rfl:=ap d;have u:x.2.2=[]:=bK (o.2.2.2.2 e);refine(kM (m+n+1) (n+1) (by omega) x).trans ?_;simp[aF,f,g,u]
def gm(n:Nat)(name:ByteArray):List (Bh n)->Option (Bh n)
 | []=>none
 | b::l=>if b.1=name then some b else gm n name l
def Iw(n:Nat):Option (Bh n)->Value
 | none=> .slice none 0 0
 | some b=> .slice b.2.1.1 b.2.2.length b.2.1.2
theorem ns(n:Nat)(name:ByteArray){l:List (Bh n)}{j:Nat}{b:Bh n}(c:l[j]?=some b):gm n name (l.drop j)=if b.1=name then some b else gm n name (l.drop (j+1)):=by
 obtain⟨d,a⟩:=aK.1 c;rw[eF d,a];rfl
theorem sR(n:Nat)(name:ByteArray)(l:List (Bh n))(r:Option Addr)(D len B:Nat)(w:World)(G:l.length=len)(H:len<=9223372036854775807)(z:B<=w.heap.size)(x:Hid (fx n B w r l)):Calls Tryz.prog 59 #[.slice r len D,.string name] w λe w'=>e=.returned (Iw n (gm n name l))/\Below w.heap.size w w':=by
 go_enter Tryz.func59,Tryz.ntmps59;go_wp2_with fail;go_loopw [9] (λq wr=>∃a:Nat,a<=len/\q=.int .i64 a/\Hid (Below w.heap.size w wr/\gm n name l=gm n name (l.drop a))) (λq _=>len-(intOf q).toNat)
 case atStart=>exact⟨0,by omega,rfl,ah _ _,rfl⟩
 case round=>
 obtain⟨a,F,rfl,c⟩:=hrel;by_cases I:a<len
 ·obtain⟨b,d⟩:∃b,l[a]?=some b:=⟨l[a]'(by omega),aA _⟩;obtain⟨k,lo,rfl,C,v⟩:∃g o,r=some ⟨g,o,none⟩/\g<B/\Hid (∀(t:Nat)(f:Value),(nr n b)[t]?=some f->w.cell? ⟨g,o+a*2+t,none⟩=some f):=by
   rcases x.out with e|⟨g,o,e,A,y⟩
   ·rw[e]at d;simp at d
   ·exact⟨g,o,e,A,(y a _ d).1⟩
  have i:∀(t:Nat)(f:Value),(nr n b)[t]?=some f->wr.cell? ⟨k,lo+a*2+t,none⟩=some f:=λt f u=>(c.out.1.cell (p:=⟨k,lo+a*2+t,none⟩) (aL C z)).trans (v.out t f u);have E:wr.cell? ⟨k,lo+a*2,none⟩=some (.string b.1):=i 0 _ rfl;have L:wr.cell? ⟨k,lo+a*2+1,none⟩=some (.slice b.2.1.1 b.2.2.length b.2.1.2):=i 1 _ rfl;have J:(0:Int)<=(a:Int):=by omega
  have K:(a:Int)<(len:Int):=by omega
  have s:Hid (∀o:Obj,Below w.heap.size w (wr.alloc o)):=λo=>c.out.1.alloc c.out.1.size o;by_cases j:b.1=name
  ·have h:Hid (gm n name l=some b):=by
     show _=_;rw[c.out.2,ns n name d,if_pos j]
   have m:Hid (Iw n (gm n name l)=.slice b.2.1.1 b.2.2.length b.2.1.2):=by
    show _=_;rw[h.out];rfl
   rw[j]at E;clear i c h d;go_wp2_with fail
   go_ret
   rw[m.out];exact⟨rfl,s.out _⟩
  ·have h:Hid (gm n name l=gm n name (l.drop (a+1))):=by
     show _=_;rw[c.out.2,ns n name d,if_neg j]
   have u:(b.1.toList==name.toList)=false:=by
    rw[gP];intro e;rw[du,du]at e;exact j (ByteArray.ext (Array.ext' e))
   clear i c d;go_wp2_with fail;go_roundw
   case rel=>exact⟨a+1,by omega,by go_num,s.out _,h.out⟩
   case measure=>simp[intOf];omega
 ·obtain rfl:a=len:=by omega
  have m:Hid (Iw n (gm n name l)=.slice none 0 0):=by
   show _=_;rw[c.out.2,List.drop_of_length_le (by omega)];rfl
  have HB:=ai c.out.1;clear c;go_wp2_with fail
  go_ret
  rw[m.out];exact⟨rfl,HB.out⟩
def qn(b:List Tc)(self:Int)(n:Nat)(x:Tm n):Option Tc:=(vl 13 b self n x).bind λz=>if bA (13+n) z=0 then some (cn (13+n) z)else none
def lB(b:List Tc)(self:Int)(n:Nat)(x:Tm n):Option Int:=(qn b self n x).bind λt=>if t.1.1=3 then some t.1.2.1 else none
structure Dg where
 b:List Tc
 next:Int
 sends:List (Int×Tc)
 spawns:List (Int×ByteArray×Tc)
 links:List Int
 stops:Bool
def D9(u:Int):Tc:=((3,u,.empty),(none,0),[])
def sV(self:Int){n:Nat}(a:Ac (n+1))(d:Dg):Option Dg:=
 if a.1=1 then (lB d.b self (n+1) a.2.1.1).bind λc=>(qn d.b self (n+1) a.2.1.2).map λt=>{d with sends:=d.sends++ [(c,t)]}
 else if a.1=2 then (qn d.b self (n+1) a.2.1.2).bind λt=>if bE ⟨13,(d.b[a.2.2.2.toNat]?).getD (D9 0)⟩=6 then some {d with b:=d.b.set a.2.2.2.toNat (D9 d.next),next:=d.next+1,spawns:=d.spawns++ [(d.next,a.2.2.1,t)]}else none
 else if a.1=3 then (lB d.b self (n+1) a.2.1.1).map λc=>{d with links:=d.links++ [c]}
 else some {d with stops:=true}
def qA(self:Int){n:Nat}:List (Ac (n+1))->Dg->Option Dg
 | [],d=>some d
 | a::l,d=>(sV self a d).bind (qA self l)
structure Tk where
 message:Tc
 fate:Int
 sends:List (Int×Tc)
 spawns:List (Int×ByteArray×Tc)
 links:List Int
 state:Tc
 mail:List Tc
def eV{n:Nat}(room self next:Int)(s m:Tc)(ms:List Tc)(c:Cl (n+1))(b:List Tc):Tk:=
 match qA self c.2.2 ⟨b,next,[],[],[],false⟩with
 | none=>⟨m,2,[],[],[],s,ms⟩
 | some a=>match qn a.b self (n+1) c.1.2.2 with
  | none=>⟨m,2,[],[],[],s,ms⟩
  | some t=>if (ms.map (sz 13)).sum+sz 13 t<=room then ⟨m,if a.stops then 1 else 0,a.sends,a.spawns,a.links,t,ms⟩else ⟨m,3,[],[],[],s,ms⟩
def gV{n:Nat}(name:ByteArray)(l:List (Bh (n+1))):List (Cl (n+1)):=((gm (n+1) name l).map λb=>b.2.2).getD []
def ng{n:Nat}(room:Int)(l:List (Bh (n+1)))(name:ByteArray)(self next:Int)(s:Tc)(ms:List Tc):Option Tk:=
 (uQ (gV name l) s ms 0).bind λa=>(ms[a.1]?).map λb=>eV room self next s b (ms.eraseIdx a.1) a.2.1 a.2.2
theorem vA{D:Nat}{l:List (Tm D)}{B:List Tc}(c:fG D l=true)(d:l.map (cn D)=B):av (λx y=>aw D x 13 y) l B=true:=by
 rw[<-d];refine oY (λy x=>aw 13 y D x) _ _ _ (λf _ b a=>dU _ _ _ _ a) (ib _ _ _ λy e=>?_);exact eL ((gu c).2 y e).1
theorem Gy{D:Nat}{l:List (Tm D)}{B:List Tc}(b:fG D l=true)(c:l.map (cn D)=B):fG 13 B=true:=by
 have e:=vA b c;obtain⟨f,g⟩:=gu b;unfold fG;rw[<-cV _ _ _ e,f];simp only[decide_true,ed,bS];intro k d;rw[<-c]at d;obtain⟨j,i,rfl⟩:=cC.1 d;have a:=g j i;have h:=eL a.1;simp only[zm,az,ci,gI];refine⟨AG a.1,?_⟩;rw[jH h,<-eT,qx a.1];exact a.2.2
theorem Hg{D n:Nat}{l:List (Tm D)}{B:List Tc}(b:fG D l=true)(g:l.map (cn D)=B)(self:Int)(x:Tm n)(k:bA n x=0):(mF 0 (vl D l self n x)).map (cn (D+n))=qn B self n x:=by
 have j:aB ⟨n,x⟩:=aJ.2 (bv.1 k).1;have i:=Gy b g;have a:=qe D l 13 B self (vA b g) (λd c=>aJ.2 (bv.1 ((gu b).2 d c).1).1) (λd c=>aJ.2 (bv.1 ((gu i).2 d c).1).1) n x j;unfold qn mF;cases e1:vl D l self n x with
 | none=>
  rw[e1]at a;cases e2:vl 13 B self n x with
  | none=>rfl
  | some _=>
   rw[e2]at a;exact a.elim
 | some m=>
  rw[e1]at a;cases e2:vl 13 B self n x with
  | none=>
   rw[e2]at a;exact a.elim
  | some h=>
   rw[e2]at a;have f:aw (D+n) m (13+n) h=true:=a;simp only[cI,dk];rw[bI f];by_cases e:bA (13+n) h=0
   ·simp[e,gw f]
   ·simp[e]
theorem KQ{n:Nat}{B:List Tc}(d:fG 13 B=true){self:Int}{x:Tm n}(f:bA n x=0){t:Tc}(a:qn B self n x=some t):bA 13 t=0/\aF 13 t=true/\cn 13 t=t:=by
 have e:aB ⟨n,x⟩:=aJ.2 (bv.1 f).1;unfold qn at a;obtain⟨c,h,a⟩:=bz.1 a;by_cases b:bA (13+n) c=0
 ·rw[if_pos b]at a;obtain rfl:=ap a;refine⟨AG b,?_,Ix b⟩;rw[qx b];exact vK 13 B self (λi g=>((gu d).2 i g).2.2) n x e c h
 ·rw[if_neg b]at a;cases a
def kD(b a:Nat)(d c lv:Value)(q:Nat):Prop:=q=b\/q=a\/d.ownBlock=some q\/c.ownBlock=some q\/lv.ownBlock=some q
def Hv(base b a:Nat)(d c lv:Value)(q:Nat):Prop:=base<=q/\¬kD b a d c lv q
structure dV (base db:Nat) (me:Int) (n D k:Nat) (nx:Int) (d:Dg) (w:World) (l:List (Tm (D+1))) (bg bc:Nat) (sd:List (Int×Tm (D+1+n+1))) (sp:List (Int×ByteArray×Tm (D+1+n+1))) (sv pv lv:Value):Prop where
 box:w.heap[db]?=some (.cells #[.slice (some ⟨bg,0,none⟩) 4 bc,.int .i64 me,.int .i64 d.next,sv,pv,lv,.bool d.stops] 146)
 own:db≠bg/\base<=db/\base<=bg/\bg<w.heap.size/\base<=w.heap.size
 bnd:fG (D+1) l=true
 tells:l.map (cn (D+1))=d.b
 row:∀(i:Nat)(y:Tm (D+1)),l[i]?=some y->dr w bg (i*4) (D+1) y/\In w.heap.size w (D+1) y/\ch (Hv base db bg sv pv lv) (D+1) y
 free:∀j,w.frozen? ⟨bg,j,none⟩=false
 sRow:w.ownsRow base 153 5 sv sd.length (sd.flatMap λz=>JN z.1 z.2)
 pRow:w.ownsRow base 150 6 pv sp.length (sp.flatMap λz=>KI z.1 z.2.1 z.2.2)
 lRow:w.ownsRow base 3 1 lv d.links.length (d.links.map λu=> .int .i64 u)
 sIs:sd.map (λz=>(z.1,cn _ z.2))=d.sends
 pIs:sp.map (λz=>(z.1,z.2.1,cn _ z.2.2))=d.spawns
 sIn:∀z∈sd,bA _ z.2=0/\In w.heap.size w _ z.2/\ch (Hv base db bg sv pv lv) _ z.2
 pIn:∀z∈sp,bA _ z.2.2=0/\In w.heap.size w _ z.2.2/\ch (Hv base db bg sv pv lv) _ z.2.2
 apart:(sv.ownBlock≠some db/\pv.ownBlock≠some db/\lv.ownBlock≠some db)/\(sv.ownBlock≠some bg/\pv.ownBlock≠some bg/\lv.ownBlock≠some bg)/\∀q,(sv.ownBlock=some q->pv.ownBlock≠some q/\lv.ownBlock≠some q)/\(pv.ownBlock=some q->lv.ownBlock≠some q)
 few:sd.length<=k/\sp.length<=k/\d.links.length<=k/\d.next=nx+sp.length/\1<=nx/\nx<=92
def Do(base b:Nat)(self:Int)(n D k:Nat)(g:Int)(d:Dg)(S:Nat->Prop)(w0 w:World):Prop:=∃l a f h i e c lv,dV base b self n D k g d w l a f h i e c lv/\∀q,kD b a e c lv q->S q\/w0.heap.size<=q
theorem qE{base n:Nat}{x:Tm n}{S c:Nat->Prop}{w w':World}(k:bf S w w')(f:∀q,c q->S q\/w.heap.size<=q)(d:In w.heap.size w n x)(e:ch (λq=>base<=q/\¬S q) n x):In w'.heap.size w' n x/\ch (λq=>base<=q/\¬c q) n x:=by
 refine⟨d.kee k (e.mono λq a=>a.2),(In.offB e d).mono λq a=>⟨a.1.1,λb=>?_⟩⟩;rcases f q b with b|b
 ·exact a.1.2 b
 ·have:=a.2;omega
theorem A6{w w':World}{n:Nat}{q:List (Tm n)}{a:Option Addr}(c:eY w.heap.size w n q a)(d:Below w.heap.size w w'):eY w'.heap.size w' n q a:=by
 rcases c.below d with c|⟨b,o,h,i,c⟩
 ·exact ae c
 ·exact af ⟨b,o,h,aL i d.size,λf g e=>⟨(c f g e).1,(c f g e).2.mono d.size⟩⟩
section
variable {base db:Nat} {self:Int} {n D k:Nat} {nx:Int} {d:Dg} {w:World} {l:List (Tm (D+1))} {bg bc:Nat} {sd:List (Int×Tm (D+1+n+1))} {sp:List (Int×ByteArray×Tm (D+1+n+1))} {sv pv lv:Value}
theorem dV.lt(a:dV base db self n D k nx d w l bg bc sd sp sv pv lv):db<w.heap.size:=(aE.1 a.box).1
theorem dV.high(c:dV base db self n D k nx d w l bg bc sd sp sv pv lv):∀q,kD db bg sv pv lv q->base<=q:=by
 intro q a;obtain⟨_,i,j,_⟩:=c.own;have f:∀{b:TypeId}{r o:Nat}{g:Value}{p:List Value},w.ownsRow base b r g o p->g.ownBlock=some q->base<=q:=λm e=>by
  rcases m.2 with⟨b,_⟩|⟨h,cap,s,b,t,_⟩
  ·rw[b]at e;cases e
  ·rw[b]at e;have:h=q:=ap e;omega
 rcases a with rfl|rfl|a|a|a
 ·exact i
 ·exact j
 ·exact f c.sRow a
 ·exact f c.pRow a
 ·exact f c.lRow a
theorem dV.later(a:dV base db self n D k nx d w l bg bc sd sp sv pv lv){w':World}(e:Below w.heap.size w w'):dV base db self n D k nx d w' l bg bc sd sp sv pv lv:=by
 have h:=aC e (λ_=>False);have i:=e.size;obtain⟨t,u,v,q,y⟩:=a.own;refine⟨(e.block db a.lt).trans a.box,⟨t,u,v,by omega,by omega⟩,a.bnd,a.tells,λs x r=>?_,λo=>?_,aT a.sRow h λ_ _ g=>g,aT a.pRow h λ_ _ g=>g,aT a.lRow h λ_ _ g=>g,a.sIs,a.pIs,λm j=>?_,λm j=>?_,a.apart,a.few⟩
 ·obtain⟨f,b,c⟩:=a.row s x r;exact⟨f.below e q,(b.below e).mono i,c⟩
 ·exact(e.frozen (p:=⟨bg,o,none⟩) q).trans (a.free o)
 ·obtain⟨f,b,c⟩:=a.sIn m j;exact⟨f,(b.below e).mono i,c⟩
 ·obtain⟨f,b,c⟩:=a.pIn m j;exact⟨f,(b.below e).mono i,c⟩
theorem dV.more(a:dV base db self n D k nx d w l bg bc sd sp sv pv lv){e:Nat}(i:k<=e):dV base db self n D e nx d w l bg bc sd sp sv pv lv:=by
 obtain⟨h,b,c,g,f⟩:=a.few;exact{a with few:=⟨by omega,by omega,by omega,g,f⟩}
theorem dV.lies(a:dV base db self n D k nx d w l bg bc sd sp sv pv lv):eY w.heap.size w (D+1) l (some ⟨bg,0,none⟩):=af ⟨bg,0,rfl,a.own.2.2.2.1,λi y b=>by
 rw[cU]
 exact⟨(a.row i y b).1,(a.row i y b).2.1⟩⟩
theorem dV.value(a:dV base db self n D k nx d w l bg bc sd sp sv pv lv)(x:Tm (n+1))(r:In base w (n+1) x)(g:bA (n+1) x=0)(o:1<=self/\self<=99):∀W,Below w.heap.size w W->Calls Tryz.prog 89 #[.pointer (some ⟨db,0,none⟩),.agg #[.int .i64 x.1.1,.int .i64 x.1.2.1,.string x.1.2.2,.slice x.2.1.1 x.2.2.length x.2.1.2]] W (uL (D+1+n) (mF 0 (vl (D+1) l self (n+1) x)) W):=by
 intro W b;have i:CP (bA (n+1) x) (fG (D+1) l) self=0:=by simp[CP,g,a.bnd,o]
 have f:=(gu a.bnd).1;have m:=a.lies;have h:=a.own.2.2.2.2;have q:=wE (D+1+n) 0 (vl (D+1) l self (n+1) x) x.1.1 x.1.2.1 x.1.2.2 x.2.1.1 x.2.2.length x.2.1.2 (some ⟨bg,0,none⟩) bc self db W (aL a.lt b.size) ((b.cell (p:=⟨db,0,none⟩) a.lt).trans (ab a.box 0)) ((b.cell (p:=⟨db,1,none⟩) a.lt).trans (ab a.box 1)) λe j=>by
  have c:=b.trans (j.mono b.size);have:=Bz n (D+1) x l (some ⟨bg,0,none⟩) bc e.heap.size self e ((r.below (c.mono h)).mono (au h c.size)) (A6 m c) (ag _) (eU g) (by rw[f];decide) (λt s=>eU ((gu a.bnd).2 t s).1);rw[i,f]at this;exact this
 exact q
theorem dV.process(h:dV base db self n D k nx d w l bg bc sd sp sv pv lv)(x:Tm (n+1))(z:In base w (n+1) x)(j:bA (n+1) x=0)(t:1<=self/\self<=99):∀W,Below w.heap.size w W->Calls Tryz.prog 160 #[.pointer (some ⟨db,0,none⟩),.agg #[.int .i64 x.1.1,.int .i64 x.1.2.1,.string x.1.2.2,.slice x.2.1.1 x.2.2.length x.2.1.2]] W λe w'=>∃u,e=.returned (.tuple #[.int .i64 u,.bool (lB d.b self (n+1) x).isSome])/\Hid (Below W.heap.size W w'/\∀v,lB d.b self (n+1) x=some v->u=v):=by
 intro W i;have a:=Hg h.bnd h.tells self x j;refine(yw (D+1+n) _ x.1.1 x.1.2.1 x.1.2.2 x.2.1.1 x.2.2.length x.2.1.2 db W λr s=>h.value x z j t r (i.trans (s.mono i.size))).mono ?_;rintro e w' ⟨u,rfl,o⟩;obtain⟨p,q⟩:=o.out;have m:Cz (mF 0 (vl (D+1) l self (n+1) x))=(lB d.b self (n+1) x).isSome/\∀v,lB d.b self (n+1) x=some v->u=v:=by
  unfold lB;rw[<-a];cases e:mF 0 (vl (D+1) l self (n+1) x)with
  | none=>exact⟨rfl,λv a=>by cases a⟩
  | some c=>
   have A:(cn (D+1+n+1) c).1=c.1:=rfl;have y:=q c e;simp only[Option.map_some,dk,Cz];by_cases g:c.1.1=3
   ·have f:(cn (D+1+n+1) c).1.1=3:=g;refine⟨?_,λv a=>?_⟩
    ·erw [if_pos f]
     simp[g]
    ·erw [if_pos f]at a
     rw[y,<-ap a];rfl
   ·have f:¬(cn (D+1+n+1) c).1.1=3:=g;refine⟨?_,λv a=>?_⟩
    ·erw [if_neg f]
     simp[g]
    ·erw [if_neg f]at a
     cases a
 exact⟨u,by rw[m.1],p,m.2⟩
end
section
variable {base db:Nat} {self:Int} {n D k:Nat} {nx:Int} {d:Dg} {w:World} {l:List (Tm (D+1))} {bg bc:Nat} {sd:List (Int×Tm (D+1+n+1))} {sp:List (Int×ByteArray×Tm (D+1+n+1))} {sv pv lv:Value}
def vS(base db:Nat)(self:Int)(n D k:Nat)(nx:Int)(d:Dg)(a:Ac (n+1))(S:Nat->Prop)(w:World)(t:Bool)(w':World):Prop:=
 bf S w w'/\t=(sV self a d).isSome/\∀b,sV self a d=some b->Do base db self n D (k+1) nx b S w w'
theorem lG{w:World}{base:Nat}{e:TypeId}{z m:Nat}{v:Value}{xs:List Value}(f:w.ownsRow base e z v m xs):∃a c,v=.slice a m c:=by
 rcases f.2 with⟨b,d⟩|⟨h,cap,g,b,_⟩
 ·exact⟨none,0,by rw[b,d]⟩
 ·exact⟨_,cap,b⟩
theorem nb{w:World}{b:Nat}{v0 v1 v2 v3 a c d:Value}{t:TypeId}(e:w.heap[b]?=some (.cells #[v0,v1,v2,v3,a,c,d] t)):(∀v,(w.setCell ⟨b,3,none⟩ v).heap[b]?=some (.cells #[v0,v1,v2,v,a,c,d] t))/\(∀v,(w.setCell ⟨b,4,none⟩ v).heap[b]?=some (.cells #[v0,v1,v2,v3,v,c,d] t))/\(∀v,(w.setCell ⟨b,5,none⟩ v).heap[b]?=some (.cells #[v0,v1,v2,v3,a,v,d] t))/\(∀v,(w.setCell ⟨b,2,none⟩ v).heap[b]?=some (.cells #[v0,v1,v,v3,a,c,d] t))/\∀v,(w.setCell ⟨b,6,none⟩ v).heap[b]?=some (.cells #[v0,v1,v2,v3,a,c,v] t):=by
 refine⟨λv=>?_,λv=>?_,λv=>?_,λv=>?_,λv=>?_⟩<;>
 ·unfold World.setCell;simp[bJ,e]
theorem r7{w:World}{b:Nat}{cs:Array Value}{t:TypeId}(a:w.heap[b]?=some (.cells cs t))(j:Nat):w.frozen? ⟨b,j,none⟩=false:=by simp[World.frozen?,a]
theorem dV.frame(a:dV base db self n D k nx d w l bg bc sd sp sv pv lv){w':World}{h g f:Value}(e:bf (kD db bg sv pv lv) w w')(j:∀q,kD db bg h g f q->kD db bg sv pv lv q\/w.heap.size<=q):(∀(i:Nat)(y:Tm (D+1)),l[i]?=some y->In w'.heap.size w' (D+1) y/\ch (Hv base db bg h g f) (D+1) y)/\(∀z∈sd,bA _ z.2=0/\In w'.heap.size w' _ z.2/\ch (Hv base db bg h g f) _ z.2)/\(∀z∈sp,bA _ z.2.2=0/\In w'.heap.size w' _ z.2.2/\ch (Hv base db bg h g f) _ z.2.2)/\Below base w w':=
 ⟨λi y m=>qE e j (a.row i y m).2.1 (a.row i y m).2.2,λz c=>⟨(a.sIn z c).1,qE e j (a.sIn z c).2.1 (a.sIn z c).2.2⟩,λz c=>⟨(a.pIn z c).1,qE e j (a.pIn z c).2.1 (a.pIn z c).2.2⟩,e.below a.own.2.2.2.2 λb o q=>by
  have:=a.high b q
  omega⟩
theorem dV.link(g:dV base db self n D k nx d w l bg bc sd sp sv pv lv)(a:Ac (n+1))(Q:gQ (n+1) base w a)(U:bA (n+1) a.2.1.1=0)(P:a.1=3)(Z:1<=self/\self<=99)(aq:k<=1000):Calls Tryz.prog 149 #[.pointer (some ⟨db,0,none⟩),KX a] w λe w'=>∃t,e=.returned (.bool t)/\Hid (vS base db self n D k nx d a (kD db bg sv pv lv) w t w'):=by
 have J:=g.lRow;obtain⟨r,s,rfl⟩:=lG J;obtain⟨am,an,ao,O⟩:=g.few;have u:sV self a d=(lB d.b self (n+1) a.2.1.1).map λx=>{d with links:=d.links++ [x]}:=by
  simp[sV,P]
 refine(DI a.1 a.2.1.1.1.1 a.2.1.1.1.2.1 a.2.1.1.1.2.2 a.2.1.1.2.1.1 a.2.1.1.2.2.length a.2.1.1.2.1.2 a.2.1.2.1.1 a.2.1.2.1.2.1 a.2.1.2.1.2.2 a.2.1.2.2.1.1 a.2.1.2.2.2.length a.2.1.2.2.1.2 a.2.2.1 a.2.2.2 base db r d.links.length s _ w (lB d.b self (n+1) a.2.1.1).isSome (λx=>∀y,lB d.b self (n+1) a.2.1.1=some y->x=y) (by omega) g.lt g.own.2.2.2.2 ⟨ab g.box 5,r7 g.box 5⟩ J g.apart.1.2.2 (g.process a.2.1.1 Q.2.1 U Z)).mono ?_;rintro e w' ⟨rfl,V,v⟩;refine⟨_,rfl,?_⟩;cases hp:lB d.b self (n+1) a.2.1.1 with
 | none=>
  have R:=V (by rw[hp];rfl);refine⟨aC R _,by rw[u,hp];rfl,λN o=>?_⟩;rw[u,hp]at o;cases o
 | some y=>
  obtain⟨x,m,c,z,ad,Y,j,i,rfl⟩:=v (by rw[hp];rfl);obtain rfl:=ad y hp;have T:z.heap[db]?=_:=(j.block db g.lt λf=>g.apart.1.2.2 f).trans g.box;have C:bf (kD db bg sv pv (.slice r d.links.length s)) w (z.setCell ⟨db,5,none⟩ (.slice (some ⟨m,0,none⟩) (d.links.length+1) c)):=bf.trans (j.mono λf _ h=>af (af (af (af h)))) (bH _ _ _ _) λf _ h=>ae h;have p:∀f,f<w.heap.size->¬(Value.slice r d.links.length s).ownBlock=some f->m≠f:=λf h W e=>by
   rcases i with i|i
   ·rw[e]at i;exact W i
   ·omega
  have H:∀f,kD db bg sv pv (.slice (some ⟨m,0,none⟩) (d.links.length+1) c) f->kD db bg sv pv (.slice r d.links.length s) f\/w.heap.size<=f:=λf h=>by
   rcases h with h|h|h|h|h
   ·exact ae (ae h)
   ·exact ae (af (ae h))
   ·exact ae (af (af (ae h)))
   ·exact ae (af (af (af (ae h))))
   ·have:m=f:=ap h;subst this;rcases i with i|i
    ·exact ae (af (af (af (af i))))
    ·exact af i
  obtain⟨aj,ak,al,av⟩:=g.frame C H;refine⟨C,by rw[u,hp];rfl,λN o=>?_⟩;rw[u,hp]at o;obtain rfl:=ap o;have ar:=C.size;obtain⟨F,ah,ai,G,au⟩:=g.own;have q:=bH z db 5 (.slice (some ⟨m,0,none⟩) (d.links.length+1) c);have aa:∀f,sv.ownBlock=some f->f<w.heap.size:=λf h=>by
   obtain⟨M,B⟩:=dT g.sRow f h;exact(aE.1 B).1
  have X:∀f,pv.ownBlock=some f->f<w.heap.size:=λf h=>by
   obtain⟨M,B⟩:=dT g.pRow f h;exact(aE.1 B).1
  have A:¬(Value.slice r d.links.length s).ownBlock=some bg:=g.apart.2.1.2.2;refine⟨l,bg,bc,sd,sp,sv,pv,_,⟨(nb T).2.2.1 _,⟨F,ah,ai,by omega,by omega⟩,g.bnd,g.tells,λK L v=>⟨?_,aj K L v⟩,λag=>?_,?_,?_,?_,g.sIs,g.pIs,ak,al,⟨⟨g.apart.1.1,g.apart.1.2.1,?_⟩,⟨g.apart.2.1.1,g.apart.2.1.2.1,?_⟩,λf=>⟨λh=>⟨((g.apart.2.2 f).1 h).1,?_⟩,λh=>?_⟩⟩,⟨by omega,by omega,by simp;omega,O⟩⟩,H⟩
  ·exact((g.row K L v).1.kee j G A).kee q (by have:=j.size;omega) (λe=>F e.symm)
  ·have S:(z.setCell ⟨db,5,none⟩ (.slice (some ⟨m,0,none⟩) (d.links.length+1) c)).heap[bg]?=w.heap[bg]? :=(q.block bg (by have:=j.size;omega) (λe=>F e.symm)).trans (j.block bg G A);have I:=g.free ag;unfold World.frozen? at I ⊢;rw[S];exact I
  ·exact aT (aT g.sRow j λf h E=>((g.apart.2.2 f).1 h).2 E) q λf h e=>g.apart.1.1 (by rw[h,e])
  ·exact aT (aT g.pRow j λf h E=>(g.apart.2.2 f).2 h E) q λf h e=>g.apart.1.2.1 (by rw[h,e])
  ·have:=aT Y q λf h e=>p db g.lt g.apart.1.2.2 (by
     have:m=f:=ap h
     rw[this,e])
   simpa using this
  ·exact λe=>p db g.lt g.apart.1.2.2 (ap e)
  ·exact λe=>p bg G A (ap e)
  ·exact λe=>p f (aa f h) (((g.apart.2.2 f).1 h).2) (ap e)
  ·exact λe=>p f (X f h) ((g.apart.2.2 f).2 h) (ap e)
end
end Go.Proofs.YtnidfceinoiboaaGreat
