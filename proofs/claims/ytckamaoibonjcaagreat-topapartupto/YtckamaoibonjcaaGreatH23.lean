/- What is proved here: plain facts and contracts that the claimed theorem stands on. No condition but those that each names. -/
import Derived.Test.YtckamaoibonjcaaGreatH19
namespace Go.Proofs.YtckamaoibonjcaaGreat
open Go.RowKit
set_option maxRecDepth 100000
set_option maxHeartbeats 1000000
def fp(n m:Nat):Option (Tm n)->Option (Tm m)->Prop
 | none,none=>True
 | some x,some y=>aw n x m y=true
 | _,_=>False
theorem mO{n m k l:Nat}{o:Option (Tm n)}{p:Option (Tm m)}{f:Tm n->Option (Tm k)}{g:Tm m->Option (Tm l)}(a:fp n m o p)(b:∀x y,aw n x m y=true->fp k l (f x) (g y)):fp k l (o.bind f) (p.bind g):=by
 cases o with
 | none=>
  cases p with
  | none=>trivial
  | some _=>exact a.elim
 | some x=>
  cases p with
  | none=>exact a.elim
  | some y=>exact b x y a
theorem iu{n m N M:Nat}(c:n<=N)(b:m<=M){x:Tm n}{y:Tm m}(d:aA ⟨n,x⟩)(e:aA ⟨m,y⟩)(a:aw n x m y=true):aw N (aN N n x) M (aN M m y)=true:=
 bD _ _ _ _ _ _ (fk N n c x d) (bD _ _ _ _ _ _ a (dq _ _ _ _ (fk M m b y e)))
theorem kw:(n:Nat)->(x:Tm n)->(m:Nat)->(y:Tm m)->aw n x m y=true->bN ⟨n,x⟩=bN ⟨m,y⟩/\oS n x=oS m y
 | 0,_,_,_,h=>by simp[aw]at h
 | _+1,_,0,_,h=>by simp[aw]at h
 | n+1,x,m+1,y,h=>by
  simp only[aw,aB,bV]at h;exact⟨h.1.1.1,h.1.1.2⟩
theorem wY{N M:Nat}{a c:Tm N}{b d:Tm M}(h:aw N a M b=true)(i:aw N c M d=true):fp (N+1) (M+1) (s8 N a c) (s8 M b d):=by
 have e:=kw _ _ _ _ h;have f:=kw _ _ _ _ i;have g:yJ N a c=yJ M b d:=by
  unfold yJ;rw[e.1,e.2,f.1,f.2]
 unfold s8;rw[<-g,<-e.2,<-f.2];cases yJ N a c
 ·simp[fp]
 ·simp[fp,aw,bJ,ay]
theorem tJ{i:Type}{N M:Nat}(f:i->Option (Tm N))(g:i->Option (Tm M)):(p:List i)->(∀a∈p,fp N M (f a) (g a))->fp (N+1) (M+1) ((cC f p).map (cU N)) ((cC g p).map (cU M))/\((cC f p=none/\cC g p=none)\/∃l r,cC f p=some l/\cC g p=some r/\ay (λx y=>aw N x M y) l r=true)
 | [],_=>⟨by simp[cC,fp,aw,cU,ay],ah ⟨[],[],rfl,rfl,rfl⟩⟩
 | a::p,h=>by
  have b:=h a (by simp);have n:=(tJ f g p λx o=>h x (by simp[o])).2;simp only[cC];cases e1:f a with
  | none=>
   rw[e1]at b;cases c:g a with
   | none=>simp[fp]
   | some _=>rw[c]at b;exact b.elim
  | some m=>
   rw[e1]at b;cases c:g a with
   | none=>rw[c]at b;exact b.elim
   | some v=>
    rw[c]at b;have j:aw N m M v=true:=b;rcases n with⟨d,e⟩|⟨l,r,d,e,k⟩
    ·rw[d,e];simp[fp]
    ·rw[d,e];exact⟨by simp[fp,aw,cU,ay,j,k],ah ⟨m::l,v::r,rfl,rfl,by simp[ay,j,k]⟩⟩
theorem qV(m:Nat)(b:List (Tm m))(f:Nat)(a:List (Tm f))(self:Int)(i:ay (λx y=>aw m x f y) b a=true)(p:∀y∈b,aA ⟨m,y⟩)(q:∀y∈a,aA ⟨f,y⟩):(n:Nat)->(x:Tm n)->aA ⟨n,x⟩->fp (m+n) (f+n) (vl m b self n x) (vl f a self n x)
 | 0,_,_=>trivial
 | n+1,x,hx=>by
  have z:=cw _ _ _ i;have w:aw (n+1) x (n+1) x=true:=fl _ _ hx;unfold vl;by_cases k:x.1.1=5
  ·rw[if_pos k,if_pos k];cases e:b[x.1.2.1.toNat]? with
   | none=>
    have g:a[x.1.2.1.toNat]?=none:=by
     rw[List.getElem?_eq_none_iff]at e ⊢;omega
    rw[g];trivial
   | some y=>
    obtain⟨u,_⟩:=aM.1 e;have g:a[x.1.2.1.toNat]?=some a[x.1.2.1.toNat]:=aE (by omega);rw[g];have s:aw m y f a[x.1.2.1.toNat]=true:=iZ _ _ _ i _ _ _ e g;simp only[dn];rw[<-(kw _ _ _ _ s).1];by_cases d:bN ⟨m,y⟩=6
    ·rw[if_pos d,if_pos d];trivial
    ·rw[if_neg d,if_neg d];exact iu (by omega) (by omega) (p y (aG e)) (q _ (aG g)) s
  ·rw[if_neg k,if_neg k];by_cases d:x.1.1=6
   ·rw[if_pos d,if_pos d];trivial
   ·rw[if_neg d,if_neg d];by_cases j:x.1.1=4
    ·rw[if_pos j,if_pos j];by_cases r:tm n x.2.2 pf 0=true
     ·rw[if_pos r,if_pos r];simp[fp,aw,bJ,ay]
     ·rw[if_neg r,if_neg r];by_cases l:tm n x.2.2 vm 2=true
      ·rw[if_pos l,if_pos l];cases e1:x.2.2[1]? with
       | none=>trivial
       | some h=>
        cases g:x.2.2[2]? with
        | none=>trivial
        | some c=>
         simp only[dn];exact mO (qV m b f a self i p q n h (aR n x h hx (aG e1))) λA C u=>mO (qV m b f a self i p q n c (aR n x c hx (aG g))) λB D v=>wY u v
      ·rw[if_neg l,if_neg l];by_cases o:tm n x.2.2 BC 1=true
       ·rw[if_pos o,if_pos o];cases e1:x.2.2[1]? with
        | none=>trivial
        | some h=>
         have t:=aR n x h hx (aG e1);simp only[dn];cases aH n h
         ·simp[fp]
         ·exact iu (by omega) (by omega) t t (fl _ _ t)
       ·rw[if_neg o,if_neg o];exact(tJ _ _ x.2.2 λy s=>qV m b f a self i p q n y (aR n x y hx s)).1
    ·rw[if_neg j,if_neg j];exact iu (by omega) (by omega) hx hx w
def Kg:(D:Nat)->(n:Nat)->Tm n->Tm D
 | 0,_,_=>()
 | _+1,0,_=>((0,0,.empty),(none,0),[])
 | D+1,n+1,x=>(x.1,(none,0),x.2.2.map λy=>Kg D n y)
theorem Hq:(D:Nat)->(n:Nat)->(x:Tm n)->(m:Nat)->(y:Tm m)->aw n x m y=true->Kg D n x=Kg D m y
 | 0,_,_,_,_,_=>rfl
 | D+1,0,_,_,_,h=>by simp[aw]at h
 | D+1,n+1,_,0,_,h=>by simp[aw]at h
 | D+1,n+1,x,m+1,y,h=>by
  obtain⟨c,d⟩:=bA h;have e:=jQ _ (λa=>Kg D n a) (λb=>Kg D m b) _ _ (λa _ b f=>Hq D n a m b f) d;simp only[Kg,c,e];rfl
theorem zQ{n:Nat}:(l:List (Tm n))->(m:Int)->m<=l.foldl (λm y=>max m (fm n y)) m/\∀y∈l,fm n y<=l.foldl (λm y=>max m (fm n y)) m
 | [],m=>⟨iJ _,λy b=>by simp at b⟩
 | a::l,m=>by
  obtain⟨d,c⟩:=zQ l (max m (fm n a));simp only[ge];refine⟨by omega,λy b=>?_⟩;rcases cB.1 b with rfl|b
  ·omega
  ·exact c y b
theorem nw{n:Nat}{x:Tm (n+1)}(e:aA ⟨n+1,x⟩){y:Tm n}(c:y∈x.2.2):fm n y+1<=fm (n+1) x:=by
 have d:x.1.1=4:=by
  have b:=e _ (oG ..);simp only[cq,aB,g9,bV,oB,decide_eq_false_iff_not]at b;rcases b.2 with a|a
  ·exact a
  ·have:=List.length_pos_of_mem c;omega
 have:=(zQ x.2.2 0).2 y c;simp only[fm,if_pos d];omega
theorem zx:(D:Nat)->(n:Nat)->(x:Tm n)->aA ⟨n,x⟩->fm n x<D->aw D (Kg D n x) n x=true
 | _,0,_,h,_=>(cZ h).elim
 | 0,n+1,x,_,h=>by
  have:=(fN (n+1) x).1;omega
 | D+1,n+1,x,hr,h=>cX rfl (iz _ _ _ λy a=>zx D n y (aR n x y hr a) (by
  have:=nw hr a
  omega))
theorem iW:(D:Nat)->(n:Nat)->(x:Tm n)->aA ⟨n,x⟩->fm n x<D->aw D (aN D n x) n x=true
 | _,0,_,h,_=>(cZ h).elim
 | 0,n+1,x,_,h=>by
  have:=(fN (n+1) x).1;omega
 | D+1,n+1,x,hr,h=>cX rfl (iz _ _ _ λy a=>iW D n y (aR n x y hr a) (by
  have:=nw hr a
  omega))
theorem IX(D n:Nat)(x:Tm n)(w:World)(b o:Nat)(g:0<D)(k:dr w b o n x):dr w b o D (aN D n x):=by
 cases n with
 | zero=>exact k.elim
 | succ n=>
  obtain⟨D,rfl⟩:∃a,D=a+1:=⟨D-1,by omega⟩;obtain⟨c,d,e,f⟩:=k;exact⟨c,d,e,by simpa [aN]using f⟩
theorem rG:(D n:Nat)->(x:Tm n)->(B:Nat)->(w:World)->aA ⟨n,x⟩->fm n x<D->In B w n x->In B w D (aN D n x)
 | _,0,_,_,_,_,_,k=>k.elim
 | 0,n+1,x,_,_,_,h,_=>by
  have:=(fN (n+1) x).1;omega
 | D+1,n+1,x,B,w,hr,h,k=>by
  obtain⟨l,a⟩:=k;refine⟨by simpa [aN]using l,?_⟩;rcases a with a|⟨b,o,e,j,a⟩
  ·exact ag (by simp[aN,a])
  ·refine ah ⟨b,o,e,j,λi y g=>?_⟩;simp only[aN,dh]at g;obtain⟨c,d,rfl⟩:=cd.1 g;have f:=aG d;have p:=nw hr f;have m:=(fN n c).1;exact⟨IX D n c w b _ (by omega) (a i c d).1,rG D n c B w (aR n x c hr f) (by omega) (a i c d).2⟩
theorem yf(D n:Nat)(x:Tm (n+1)):df (D+1) (aN (D+1) (n+1) x)=df (n+1) x:=by
 simp[df,aN]
theorem tn:(D n:Nat)->(x:Tm n)->(P:Nat->Prop)->aA ⟨n,x⟩->fm n x<D->bZ P n x->bZ P D (aN D n x)
 | _,0,_,_,h,_,_=>(cZ h).elim
 | 0,n+1,x,_,_,h,_=>by
  have:=(fN (n+1) x).1;omega
 | D+1,n+1,x,P,hr,h,k=>by
  rcases k with k|⟨b,o,e,g,k⟩
  ·exact ag (by simp[aN,k])
  ·refine ah ⟨b,o,e,g,λi y d=>?_⟩;simp only[aN,dh]at d;obtain⟨a,f,rfl⟩:=cd.1 d;have c:=aG f;have j:=nw hr c;exact tn D n a P (aR n x a hr c) (by omega) (k i a f)
abbrev Tc:Type:=Tm 13
def cn(n:Nat)(x:Tm n):Tc:=Kg 13 n x
theorem gR{n m:Nat}{x:Tm n}{y:Tm m}(a:aw n x m y=true):cn n x=cn m y:=Hq 13 n x m y a
theorem eC{n:Nat}{x:Tm n}(a:bq n x=0):aw 13 (cn n x) n x=true:=by
 obtain⟨b,c,_⟩:=bz.1 a;exact zx 13 n x (aJ.2 b) (by omega)
theorem KF{n:Nat}{x:Tm n}(a:bq n x=0):cn 13 (cn n x)=cn n x:=gR (eC a)
theorem rv{n:Nat}{x:Tm n}(a:bq n x=0):bq 13 (cn n x)=0:=by rw[bL (eC a),a]
theorem DT{n:Nat}{x:Tm n}(a:bq n x=0):sz 13 (cn n x)=sz n x:=kY _ _ _ _ (eC a)
theorem lE{n:Nat}{x:Tm n}(a:bq n x=0):aH 13 (cn n x)=aH n x:=cr _ _ _ _ (eC a)
theorem C9{n m:Nat}{x:Tm n}{y:Tm m}(c:bq n x=0)(d:bq m y=0)(b:cn n x=cn m y):aw n x m y=true:=by
 have a:=dq _ _ _ _ (eC c);rw[b]at a;exact bD _ _ _ _ _ _ a (eC d)
theorem Ov{n m:Nat}:(p:List (Tm n))->(q:List (Tm m))->ay (λx y=>aw n x m y) p q=true->p.map (cn n)=q.map (cn m):=λp q a=>jQ _ _ _ p q (λ_ _ _ b=>gR b) a
theorem sB{n m:Nat}:(p:List (Tm n))->(q:List (Tm m))->(∀x∈p,bq n x=0)->(∀y∈q,bq m y=0)->p.map (cn n)=q.map (cn m)->ay (λx y=>aw n x m y) p q=true
 | [],[],_,_,_=>rfl
 | [],_::_,_,_,h=>by simp at h
 | _::_,[],_,_,h=>by simp at h
 | x::p,y::q,hp,hq,h=>by
  simp only[aI,l6]at h;simp only[ay,aB];exact⟨C9 (hp x (by simp)) (hq y (by simp)) h.1,sB p q (λa b=>hp a (bH _ b)) (λa b=>hq a (bH _ b)) h.2⟩
def mB:List An:=ni 1 (List.replicate 4 eW)
def NM(a:An):Tc:=cn a.1 a.2
def kK{n:Nat}(c:Cl (n+1))(s m:Tc):Option (List Tc):=(gN (n+1) c.1.1 13 s mB).bind λb=>(gN (n+1) c.1.2.1 13 m b).map λa=>a.map NM
def lD{n:Nat}(s m:Tc):List (Cl (n+1))->Option (Cl (n+1)×List Tc)
 | []=>none
 | c::l=>match kK c s m with
  | some b=>some (c,b)
  | none=>lD s m l
def rq{n:Nat}(l:List (Cl (n+1)))(s:Tc):List Tc->Nat->Option (Nat×Cl (n+1)×List Tc)
 | [],_=>none
 | m::ms,i=>match lD s m l with
  | some x=>some (i,x)
  | none=>rq l s ms (i+1)
theorem FT{x y:An}(a:dQ x y=true)(d:BS y):BS x:=by
 obtain⟨b,c⟩:=d;refine⟨(bL a).trans b,?_⟩;rw[uo a,cr _ _ _ _ a];exact c
theorem rP{d g:Type}(f:d->g->Bool):(p:List d)->(q:List g)->ay f p q=true->∀x∈p,∃y∈q,f x y=true
 | [],_,_,x,c=>by simp at c
 | _::_,[],h,_,_=>by simp[ay]at h
 | a::p,b::q,h,x,c=>by
  simp only[ay,aB]at h;rcases cB.1 c with rfl|c
  ·exact⟨b,by simp,h.1⟩
  ·obtain⟨y,i,e⟩:=rP f p q h.2 x c;exact⟨y,bH _ i,e⟩
theorem FU{p q:List An}(a:ay dQ p q=true)(b:∀y∈q,BS y):∀x∈p,BS x:=λx c=>by
 obtain⟨y,d,e⟩:=rP _ _ _ a x c;exact FT e (b y d)
theorem rj{n:Nat}:(l:List (Tm n))->(b:List An)->(∀y∈b,aA y/\y.1<=n)->ay (λx y=>aw n x n y) l (b.map λa=>aN n a.1 a.2)=true->ay dQ (ni n l) b=true
 | [],[],_,_=>rfl
 | [],_::_,_,h=>by simp[ay]at h
 | _::_,[],_,h=>by simp[ay]at h
 | x::l,a::b,hb,h=>by
  simp only[aI,ay,aB]at h;simp only[ni,aI,ay,aB];obtain⟨c,d⟩:=hb a (by simp);exact⟨bD _ _ _ _ _ _ h.1 (fk n a.1 d a.2 c),rj l b (λy e=>hb y (bH _ e)) h.2⟩
theorem Hw{p q:List An}(a:ay dQ p q=true):p.map NM=q.map NM:=jQ _ _ _ p q (λ_ _ _ b=>gR b) a
theorem tK:ay dQ mB mB=true:=by
 refine iA _ _ λa b=>?_;exact fl _ _ (qH (BV a b))
theorem L8{n:Nat}{x:Tm n}(a:bq n x=0)(b:aH n x=true):BS ⟨n,x⟩:=⟨a,ah b⟩
theorem bZ.both{P Q:Nat->Prop}:{n:Nat}->{x:Tm n}->bZ P n x->bZ Q n x->bZ (λb=>P b/\Q b) n x
 | 0,_,p,_=>p
 | _+1,_,p,k=>by
  rcases p with p|⟨b,o,e,g,p⟩
  ·exact ag p
  ·rcases k with k|⟨j,l,a,h,k⟩
   ·exact ag k
   ·rw[e]at a;injection a with a;injection a with d f;subst d f;exact ah ⟨b,o,e,⟨g,h⟩,λi y c=>(p i y c).both (k i y c)⟩
structure p7 (D:Nat) (l:List (Tm D)) (B:List Tc) (b0:Nat) (w':World) (bg bc:Nat):Prop where
 bnd:fV D l=true
 tells:l.map (cn D)=B
 cap:4<=bc/\bc<=maxLen
 new:b0<=bg/\bg<w'.heap.size
 at':∀(i:Nat)(y:Tm D),l[i]?=some y->dr w' bg (i*4) D y/\In w'.heap.size w' D y/\bZ (λq=>b0<=q/\q≠bg) D y
 free:∀j,w'.frozen? ⟨bg,j,none⟩=false
def L5{n:Nat}(c:Cl (n+1))(s m:Tc)(w:World)(e:Ending)(w':World):Prop:=
 ∃b len f g,e=.returned (.tuple #[.slice b len f,.bool g])/\Hid (ai w w'/\g=(kK c s m).isSome/\∀a,kK c s m=some a->len=4/\∃h l d,b=some ⟨d,0,none⟩/\p7 h l a w.heap.size w' d f)
theorem Iv{n m k:Nat}(c:Cl (n+1))(s:Tm (m+1))(t:Tm (k+1))(R:bq (n+1) c.1.1=0)(S:bq (n+1) c.1.2.1=0)(A:bq (m+1) s=0)(T:aH (m+1) s=true)(B:bq (k+1) t=0)(U:aH (k+1) t=true){w w':World}{e:Ending}(Q:G6 (gN (n+1) c.1.1 (m+1) s mB) (gN (n+1) c.1.2.1 (k+1) t) w e w'):L5 c (cn (m+1) s) (cn (k+1) t) w e w':=by
 obtain⟨K,len,P,ap,rfl,J⟩:=Q;obtain⟨V,Z,ae⟩:=J.out;refine⟨K,len,P,ap,rfl,V,?_⟩;have f:=lG (n+1) c.1.1 (m+1) s (n+1) c.1.1 13 (cn (m+1) s) mB mB (fl _ _ (aJ.2 (bz.1 R).1)) (dq _ _ _ _ (eC A)) tK;cases e1:gN (n+1) c.1.1 (m+1) s mB with
 | none=>
  rw[e1]at f;cases e2:gN (n+1) c.1.1 13 (cn (m+1) s) mB with
  | some _=>
   rw[e2]at f;exact f.elim
  | none=>
   have j:kK c (cn (m+1) s) (cn (k+1) t)=none:=by simp[kK,e2]
   rw[j];exact⟨Z e1,λz i=>by cases i⟩
 | some b=>
  rw[e1]at f;cases e2:gN (n+1) c.1.1 13 (cn (m+1) s) mB with
  | none=>
   rw[e2]at f;exact f.elim
  | some q=>
   rw[e2]at f;have r:=ku BS nH (n+1) c.1.1 (m+1) s (L8 A T) mB b ⟨by simp[mB,ni],BV⟩ e1;obtain⟨o,X,aa,af⟩:=ae b e1;have p:ay dQ (ni (mr b) o) b=true:=rj o b (λa d=>⟨qH (r.2 a d),yP b a d⟩) X;have L:ay dQ (ni (mr b) o) q=true:=nK dQ dQ dQ _ _ _ (λH _ a I aj G=>bD H.1 H.2 a.1 a.2 I.1 I.2 aj G) p f;have g:=lG (n+1) c.1.2.1 (k+1) t (n+1) c.1.2.1 13 (cn (k+1) t) _ _ (fl _ _ (aJ.2 (bz.1 S).1)) (dq _ _ _ _ (eC B)) L;cases e3:gN (n+1) c.1.2.1 (k+1) t (ni (mr b) o)with
   | none=>
    rw[e3]at g;cases e4:gN (n+1) c.1.2.1 13 (cn (k+1) t) q with
    | some _=>
     rw[e4]at g;exact g.elim
    | none=>
     have j:kK c (cn (m+1) s) (cn (k+1) t)=none:=by simp[kK,e2,e4]
     rw[j];exact⟨aa e3,λz i=>by cases i⟩
   | some h=>
    rw[e3]at g;cases e4:gN (n+1) c.1.2.1 13 (cn (k+1) t) q with
    | none=>
     rw[e4]at g;exact g.elim
    | some N=>
     rw[e4]at g;have j:kK c (cn (m+1) s) (cn (k+1) t)=some (N.map NM):=by simp[kK,e2,e4]
     rw[j];obtain⟨ah,ai,E,av,l,aq,F⟩:=af h e3;refine⟨ah,λz i=>⟨ai,mr h,l,?_⟩⟩;cases i;have ab:=FU p r.2;have Y:(ni (mr b) o).length=4:=by rw[cw _ _ _ p];exact r.1
     have C:=ku BS nH (n+1) c.1.2.1 (k+1) t (L8 B U) _ h ⟨Y,ab⟩ e3;have D:∀a∈h,aA a:=λa d=>qH (C.2 a d);obtain⟨_,v,ag,_⟩:=D0 F D E;have W:=xb C.2 v E ag;obtain⟨_,_,ar,ak,al,x⟩:=F;rcases x with x|⟨O,bo,rfl,⟨au,rfl,an,ao⟩,am,y⟩
     ·rw[x]at v;simp at v
     ·refine⟨O,rfl,W,?_,⟨by omega,ak⟩,⟨by omega,am⟩,λu a d=>⟨?_,(y u a d).2.1,(bZ.both (y u a d).2.2 (ao a (aG d))).mono λG ad=>⟨by omega,ad.2⟩⟩,an⟩;rotate_left
      ·have:=(y u a d).1;rw[cP]at this;exact this
      have M:ay dQ (ni (mr h) l) h=true:=rj l h (λa d=>⟨D a d,yP h a d⟩) al;rw[<-Hw g,<-Hw M];simp[ni,NM]
theorem Gb{n m k:Nat}(c:Cl (n+1))(s:Tm (m+1))(t:Tm (k+1))(B:Nat)(w:World)(i:gL (n+1) B w c)(j:In B w (m+1) s)(l:In B w (k+1) t)(h:B<=w.heap.size)(a:bq (n+1) c.1.1=0)(b:bq (n+1) c.1.2.1=0)(d:bq (m+1) s=0)(e:aH (m+1) s=true)(f:bq (k+1) t=0)(g:aH (k+1) t=true):ak 101 #[.agg (eO (n+1) c).toArray,df (m+1) s,df (k+1) t] w (L5 c (cn (m+1) s) (cn (k+1) t) w):=
 (Ga n m k c s t B w i j l h a b d (by rw[<-fj];exact e) f (by rw[<-fj];exact g)).mono λ_ _ o=>Iv c s t a b d e f g o
theorem kV:(N n:Nat)->n<=N->(x:Tm n)->aH N (aN N n x)=aH n x
 | 0,0,_,_=>rfl
 | _+1,0,_,_=>by simp[aN,aH]
 | 0,n+1,h,_=>by omega
 | N+1,n+1,h,x=>by
  have:(x.2.2.map λy=>aN N n y).all (λy=>aH N y)=x.2.2.all λy=>aH n y:=by
   rw[List.all_map];congr 1;funext y;exact kV N n (by omega) y
  simp only[aH,aN];rw[this]
theorem xi(m:Nat)(b:List (Tm m))(self:Int)(k:∀y∈b,bN ⟨m,y⟩=6\/aH m y=true):(n:Nat)->(x:Tm n)->aA ⟨n,x⟩->(j:Tm (m+n))->vl m b self n x=some j->aH (m+n) j=true
 | 0,_,_,_,d=>by simp[vl]at d
 | n+1,x,hr,j,d=>by
  have p:=eq (bu n x) (hr (bu n x) (by simp[av,bu]));by_cases g:x.1.1=6
  ·rw[JZ m b self n x g]at d;cases d
  ·by_cases f:x.1.1=5
   ·simp only[vl,f,cM]at d;obtain⟨y,h,d⟩:=br.1 d;split at d
    ·cases d
    ·rename_i t;obtain rfl:=au d;exact(kV (m+n+1) m (by omega) y).trans ((k y (aG h)).resolve_left t)
   ·by_cases e:x.1.1=4
    ·rw[J0 m b self n x e]at d;unfold vJ at d;split at d
     ·obtain rfl:=au d;simp[bJ,aH]
     ·split at d
      ·obtain⟨a,q,d⟩:=br.1 d;obtain⟨c,D,d⟩:=br.1 d;obtain⟨A,C,d⟩:=br.1 d;obtain⟨B,E,d⟩:=br.1 d;unfold s8 at d;split at d
       ·obtain rfl:=au d;simp[bJ,aH]
       ·cases d
      ·split at d
       ·obtain⟨a,q,d⟩:=br.1 d;split at d
        ·rename_i r;obtain rfl:=au d;exact(kV (m+n+1) n (by omega) a).trans r
        ·cases d
       ·obtain⟨l,u,rfl⟩:=cd.1 d;obtain⟨w,z⟩:=qi _ _ _ u;show aH (m+n+1) (cU (m+n) l)=true;simp only[aH,cU];simp only[aB,b9];refine⟨by decide,λy h=>?_⟩;obtain⟨i,o⟩:=cJ h;have s:i<x.2.2.length:=by rw[<-w];exact(aM.1 o).1
        exact xi m b self k n x.2.2[i] (aR n x _ hr (je _)) y (z i _ y (aE s) o)
    ·rw[EC m b self n x e f g]at d;obtain rfl:=au d;have v:x.2.2=[]:=bB (p.2.2.2.2 e);refine(kV (m+n+1) (n+1) (by omega) x).trans ?_;simp[aH,f,g,v]
def fU(n:Nat)(name:ByteArray):List (Bh n)->Option (Bh n)
 | []=>none
 | b::l=>if b.1=name then some b else fU n name l
def KE(n:Nat):Option (Bh n)->Value
 | none=> .slice none 0 0
 | some b=> .slice b.2.1.1 b.2.2.length b.2.1.2
theorem nU(n:Nat)(name:ByteArray){l:List (Bh n)}{j:Nat}{b:Bh n}(c:l[j]?=some b):fU n name (l.drop j)=if b.1=name then some b else fU n name (l.drop (j+1)):=by
 obtain⟨d,a⟩:=aM.1 c;rw[ee d,a];rfl
theorem tU(n:Nat)(name:ByteArray)(l:List (Bh n))(r:Option Addr)(D len B:Nat)(w:World)(G:l.length=len)(H:len<=9223372036854775807)(z:B<=w.heap.size)(x:Hid (gM n B w r l)):ak 70 #[.slice r len D,ae name] w λe w'=>e=.returned (KE n (fU n name l))/\ai w w':=by
 go_enter Tryz.func70,Tryz.ntmps70;go_wp2_with fail;go_loopw [9] (λq wr=>∃a:Nat,a<=len/\q=ab a/\Hid (ai w wr/\fU n name l=fU n name (l.drop a))) (λq _=>len-(intOf q).toNat)
 case atStart=>exact⟨0,by omega,rfl,am _ _,rfl⟩
 case round=>
 obtain⟨a,F,rfl,c⟩:=hrel;by_cases I:a<len
 ·obtain⟨b,d⟩:∃b,l[a]?=some b:=⟨l[a]'(by omega),aE _⟩;obtain⟨k,lo,rfl,C,v⟩:∃g o,r=some ⟨g,o,none⟩/\g<B/\Hid (∀(t:Nat)(f:Value),(oR n b)[t]?=some f->w.cell? ⟨g,o+a*2+t,none⟩=some f):=by
   rcases x.out with e|⟨g,o,e,A,y⟩
   ·rw[e]at d;simp at d
   ·exact⟨g,o,e,A,(y a _ d).1⟩
  have i:∀(t:Nat)(f:Value),(oR n b)[t]?=some f->wr.cell? ⟨k,lo+a*2+t,none⟩=some f:=λt f u=>(c.out.1.cell (p:=⟨k,lo+a*2+t,none⟩) (aL C z)).trans (v.out t f u);have E:wr.cell? ⟨k,lo+a*2,none⟩=some (ae b.1):=i 0 _ rfl;have L:wr.cell? ⟨k,lo+a*2+1,none⟩=some (.slice b.2.1.1 b.2.2.length b.2.1.2):=i 1 _ rfl;have J:(0:Int)<=(a:Int):=by omega
  have K:(a:Int)<(len:Int):=by omega
  have s:Hid (∀o:Obj,ai w (wr.alloc o)):=λo=>c.out.1.alloc c.out.1.size o;by_cases j:b.1=name
  ·have h:Hid (fU n name l=some b):=by
     show _=_;rw[c.out.2,nU n name d,if_pos j]
   have m:Hid (KE n (fU n name l)=.slice b.2.1.1 b.2.2.length b.2.1.2):=by
    show _=_;rw[h.out];rfl
   rw[j]at E;clear i c h d;go_wp2_with fail
   go_ret
   rw[m.out];exact⟨rfl,s.out _⟩
  ·have h:Hid (fU n name l=fU n name (l.drop (a+1))):=by
     show _=_;rw[c.out.2,nU n name d,if_neg j]
   have u:(b.1.toList==name.toList)=false:=by
    rw[gi];intro e;rw[b8,b8]at e;exact j (ByteArray.ext (Array.ext' e))
   clear i c d;go_wp2_with fail;go_roundw
   case rel=>exact⟨a+1,by omega,by go_num,s.out _,h.out⟩
   case measure=>simp[intOf];omega
 ·obtain rfl:a=len:=by omega
  have m:Hid (KE n (fU n name l)=.slice none 0 0):=by
   show _=_;rw[c.out.2,oE (by omega)];rfl
  have HB:=ao c.out.1;clear c;go_wp2_with fail
  go_ret
  rw[m.out];exact⟨rfl,HB.out⟩
def rS(b:List Tc)(self:Int)(n:Nat)(x:Tm n):Option Tc:=(vl 13 b self n x).bind λa=>if bq (13+n) a=0 then some (cn (13+n) a)else none
def mK(b:List Tc)(self:Int)(n:Nat)(x:Tm n):Option Int:=(rS b self n x).bind λt=>if t.1.1=3 then some t.1.2.1 else none
structure Dg where
 b:List Tc
 next:Int
 sends:List (Int×Tc)
 spawns:List (Int×ByteArray×Tc)
 links:List Int
 stops:Bool
def CY(a:Int):Tc:=((3,a,.empty),(none,0),[])
def qu(self:Int){n:Nat}(a:Ac (n+1))(d:Dg):Option Dg:=
 if a.1=1 then (mK d.b self (n+1) a.2.1.1).bind λc=>(rS d.b self (n+1) a.2.1.2).map λt=>{d with sends:=d.sends++ [(c,t)]}
 else if a.1=2 then (rS d.b self (n+1) a.2.1.2).bind λt=>if bN ⟨13,(d.b[a.2.2.2.toNat]?).getD (CY 0)⟩=6 then some {d with b:=d.b.set a.2.2.2.toNat (CY d.next),next:=d.next+1,spawns:=d.spawns++ [(d.next,a.2.2.1,t)]}else none
 else if a.1=3 then (mK d.b self (n+1) a.2.1.1).map λc=>{d with links:=d.links++ [c]}
 else some {d with stops:=true}
def py(self:Int){n:Nat}:List (Ac (n+1))->Dg->Option Dg
 | [],d=>some d
 | a::l,d=>(qu self a d).bind (py self l)
structure Tk where
 message:Tc
 fate:Int
 sends:List (Int×Tc)
 spawns:List (Int×ByteArray×Tc)
 links:List Int
 state:Tc
 mail:List Tc
def eY{n:Nat}(room self next:Int)(s m:Tc)(ms:List Tc)(c:Cl (n+1))(b:List Tc):Tk:=
 match py self c.2.2 ⟨b,next,[],[],[],false⟩with
 | none=>⟨m,2,[],[],[],s,ms⟩
 | some a=>match rS a.b self (n+1) c.1.2.2 with
  | none=>⟨m,2,[],[],[],s,ms⟩
  | some t=>if (ms.map (sz 13)).sum+sz 13 t<=room then ⟨m,if a.stops then 1 else 0,a.sends,a.spawns,a.links,t,ms⟩else ⟨m,3,[],[],[],s,ms⟩
def fW{n:Nat}(name:ByteArray)(l:List (Bh (n+1))):List (Cl (n+1)):=((fU (n+1) name l).map λb=>b.2.2).getD []
def mP{n:Nat}(room:Int)(l:List (Bh (n+1)))(name:ByteArray)(self next:Int)(s:Tc)(ms:List Tc):Option Tk:=
 (rq (fW name l) s ms 0).bind λa=>(ms[a.1]?).map λb=>eY room self next s b (ms.eraseIdx a.1) a.2.1 a.2.2
theorem wO{D:Nat}{l:List (Tm D)}{B:List Tc}(c:fV D l=true)(d:l.map (cn D)=B):ay (λx y=>aw D x 13 y) l B=true:=by
 rw[<-d];refine pO (λy x=>aw 13 y D x) _ _ _ (λf _ b a=>dq _ _ _ _ a) (iz _ _ _ λy e=>?_);exact eC ((gQ c).2 y e).1
theorem Jq{D:Nat}{l:List (Tm D)}{B:List Tc}(b:fV D l=true)(c:l.map (cn D)=B):fV 13 B=true:=by
 have e:=wO b c;obtain⟨f,g⟩:=gQ b;unfold fV;rw[<-cw _ _ _ e,f];simp only[decide_true,dZ,b9];intro k d;rw[<-c]at d;obtain⟨j,i,rfl⟩:=bU.1 d;have a:=g j i;have h:=eC a.1;simp only[AL,aB,bV,g9];refine⟨rv a.1,?_⟩;rw[jR h,<-fj,lE a.1];exact a.2.2
theorem JY{D n:Nat}{l:List (Tm D)}{B:List Tc}(b:fV D l=true)(g:l.map (cn D)=B)(self:Int)(x:Tm n)(k:bq n x=0):(np 0 (vl D l self n x)).map (cn (D+n))=rS B self n x:=by
 have j:aA ⟨n,x⟩:=aJ.2 (bz.1 k).1;have i:=Jq b g;have a:=qV D l 13 B self (wO b g) (λd c=>aJ.2 (bz.1 ((gQ b).2 d c).1).1) (λd c=>aJ.2 (bz.1 ((gQ i).2 d c).1).1) n x j;unfold rS np;cases e1:vl D l self n x with
 | none=>
  rw[e1]at a;cases e2:vl 13 B self n x with
  | none=>rfl
  | some _=>
   rw[e2]at a;exact a.elim
 | some m=>
  rw[e1]at a;cases e2:vl 13 B self n x with
  | none=>
   rw[e2]at a;exact a.elim
  | some h=>
   rw[e2]at a;have f:aw (D+n) m (13+n) h=true:=a;simp only[cM,dn];rw[bL f];by_cases e:bq (13+n) h=0
   ·simp[e,gR f]
   ·simp[e]
theorem Nj{n:Nat}{B:List Tc}(d:fV 13 B=true){self:Int}{x:Tm n}(f:bq n x=0){t:Tc}(a:rS B self n x=some t):bq 13 t=0/\aH 13 t=true/\cn 13 t=t:=by
 have e:aA ⟨n,x⟩:=aJ.2 (bz.1 f).1;unfold rS at a;obtain⟨c,h,a⟩:=br.1 a;by_cases b:bq (13+n) c=0
 ·rw[if_pos b]at a;obtain rfl:=au a;refine⟨rv b,?_,KF b⟩;rw[lE b];exact xi 13 B self (λi g=>((gQ d).2 i g).2.2) n x e c h
 ·rw[if_neg b]at a;cases a
def kM(b a:Nat)(d c lv:Value)(q:Nat):Prop:=q=b\/q=a\/d.ownBlock=some q\/c.ownBlock=some q\/lv.ownBlock=some q
def Ke(base b a:Nat)(d c lv:Value)(q:Nat):Prop:=base<=q/\¬kM b a d c lv q
structure dT (base db:Nat) (me:Int) (n D k:Nat) (nx:Int) (d:Dg) (w:World) (l:List (Tm (D+1))) (bg bc:Nat) (sd:List (Int×Tm (D+1+n+1))) (sp:List (Int×ByteArray×Tm (D+1+n+1))) (sv pv lv:Value):Prop where
 box:w.heap[db]?=some (.cells #[.slice (some ⟨bg,0,none⟩) 4 bc,ab me,ab d.next,sv,pv,lv,.bool d.stops] 155)
 own:db≠bg/\base<=db/\base<=bg/\bg<w.heap.size/\base<=w.heap.size
 bnd:fV (D+1) l=true
 tells:l.map (cn (D+1))=d.b
 row:∀(i:Nat)(y:Tm (D+1)),l[i]?=some y->dr w bg (i*4) (D+1) y/\In w.heap.size w (D+1) y/\bZ (Ke base db bg sv pv lv) (D+1) y
 free:∀j,w.frozen? ⟨bg,j,none⟩=false
 sRow:w.ownsRow base 162 5 sv sd.length (sd.flatMap λz=>Ma z.1 z.2)
 pRow:w.ownsRow base 159 6 pv sp.length (sp.flatMap λz=>M9 z.1 z.2.1 z.2.2)
 lRow:w.ownsRow base 3 1 lv d.links.length (d.links.map λu=>ab u)
 sIs:sd.map (λz=>(z.1,cn _ z.2))=d.sends
 pIs:sp.map (λz=>(z.1,z.2.1,cn _ z.2.2))=d.spawns
 sIn:∀z∈sd,bq _ z.2=0/\In w.heap.size w _ z.2/\bZ (Ke base db bg sv pv lv) _ z.2
 pIn:∀z∈sp,bq _ z.2.2=0/\In w.heap.size w _ z.2.2/\bZ (Ke base db bg sv pv lv) _ z.2.2
 apart:(sv.ownBlock≠some db/\pv.ownBlock≠some db/\lv.ownBlock≠some db)/\(sv.ownBlock≠some bg/\pv.ownBlock≠some bg/\lv.ownBlock≠some bg)/\∀q,(sv.ownBlock=some q->pv.ownBlock≠some q/\lv.ownBlock≠some q)/\(pv.ownBlock=some q->lv.ownBlock≠some q)
 few:sd.length<=k/\sp.length<=k/\d.links.length<=k/\d.next=nx+sp.length/\1<=nx/\nx<=92
def Do(base b:Nat)(self:Int)(n D k:Nat)(g:Int)(d:Dg)(S:Nat->Prop)(w0 w:World):Prop:=∃l a f h i e c lv,dT base b self n D k g d w l a f h i e c lv/\∀q,kM b a e c lv q->S q\/w0.heap.size<=q
theorem rE{base n:Nat}{x:Tm n}{S c:Nat->Prop}{w w':World}(k:bk S w w')(f:∀q,c q->S q\/w.heap.size<=q)(d:In w.heap.size w n x)(e:bZ (λq=>base<=q/\¬S q) n x):In w'.heap.size w' n x/\bZ (λq=>base<=q/\¬c q) n x:=by
 refine⟨d.kee k (e.mono λq a=>a.2),(In.offB e d).mono λq a=>⟨a.1.1,λb=>?_⟩⟩;rcases f q b with b|b
 ·exact a.1.2 b
 ·have:=a.2;omega
theorem CE{w w':World}{n:Nat}{q:List (Tm n)}{a:Option Addr}(c:ft w.heap.size w n q a)(d:ai w w'):ft w'.heap.size w' n q a:=by
 rcases c.below d with c|⟨b,o,h,i,c⟩
 ·exact ag c
 ·exact ah ⟨b,o,h,aL i d.size,λf g e=>⟨(c f g e).1,(c f g e).2.mono d.size⟩⟩
section
variable {base db:Nat} {self:Int} {n D k:Nat} {nx:Int} {d:Dg} {w:World} {l:List (Tm (D+1))} {bg bc:Nat} {sd:List (Int×Tm (D+1+n+1))} {sp:List (Int×ByteArray×Tm (D+1+n+1))} {sv pv lv:Value}
theorem dT.lt(a:dT base db self n D k nx d w l bg bc sd sp sv pv lv):db<w.heap.size:=(aC.1 a.box).1
theorem dT.high(c:dT base db self n D k nx d w l bg bc sd sp sv pv lv):∀q,kM db bg sv pv lv q->base<=q:=by
 intro q a;obtain⟨_,i,j,_⟩:=c.own;have f:∀{b:TypeId}{r o:Nat}{g:Value}{p:List Value},w.ownsRow base b r g o p->g.ownBlock=some q->base<=q:=λm e=>by
  rcases m.2 with⟨b,_⟩|⟨h,cap,s,b,t,_⟩
  ·rw[b]at e;cases e
  ·rw[b]at e;have:h=q:=au e;omega
 rcases a with rfl|rfl|a|a|a
 ·exact i
 ·exact j
 ·exact f c.sRow a
 ·exact f c.pRow a
 ·exact f c.lRow a
theorem dT.later(a:dT base db self n D k nx d w l bg bc sd sp sv pv lv){w':World}(e:ai w w'):dT base db self n D k nx d w' l bg bc sd sp sv pv lv:=by
 have h:=aD e (λ_=>False);have i:=e.size;obtain⟨t,u,v,q,y⟩:=a.own;refine⟨(e.block db a.lt).trans a.box,⟨t,u,v,by omega,by omega⟩,a.bnd,a.tells,λs x r=>?_,λo=>?_,aY a.sRow h λ_ _ g=>g,aY a.pRow h λ_ _ g=>g,aY a.lRow h λ_ _ g=>g,a.sIs,a.pIs,λm j=>?_,λm j=>?_,a.apart,a.few⟩
 ·obtain⟨f,b,c⟩:=a.row s x r;exact⟨f.below e q,(b.below e).mono i,c⟩
 ·exact(e.frozen (p:=⟨bg,o,none⟩) q).trans (a.free o)
 ·obtain⟨f,b,c⟩:=a.sIn m j;exact⟨f,(b.below e).mono i,c⟩
 ·obtain⟨f,b,c⟩:=a.pIn m j;exact⟨f,(b.below e).mono i,c⟩
theorem dT.more(a:dT base db self n D k nx d w l bg bc sd sp sv pv lv){e:Nat}(i:k<=e):dT base db self n D e nx d w l bg bc sd sp sv pv lv:=by
 obtain⟨h,b,c,g,f⟩:=a.few;exact{a with few:=⟨by omega,by omega,by omega,g,f⟩}
theorem dT.lies(a:dT base db self n D k nx d w l bg bc sd sp sv pv lv):ft w.heap.size w (D+1) l (some ⟨bg,0,none⟩):=ah ⟨bg,0,rfl,a.own.2.2.2.1,λi y b=>by
 rw[cP]
 exact⟨(a.row i y b).1,(a.row i y b).2.1⟩⟩
theorem dT.value(a:dT base db self n D k nx d w l bg bc sd sp sv pv lv)(x:Tm (n+1))(r:In base w (n+1) x)(g:bq (n+1) x=0)(o:1<=self/\self<=99):∀W,ai w W->ak 103 #[.pointer (some ⟨db,0,none⟩),.agg #[ab x.1.1,ab x.1.2.1,ae x.1.2.2,.slice x.2.1.1 x.2.2.length x.2.1.2]] W (vN (D+1+n) (np 0 (vl (D+1) l self (n+1) x)) W):=by
 intro W b;have i:Eu (bq (n+1) x) (fV (D+1) l) self=0:=by simp[Eu,g,a.bnd,o]
 have f:=(gQ a.bnd).1;have m:=a.lies;have h:=a.own.2.2.2.2;have q:=xR (D+1+n) 0 (vl (D+1) l self (n+1) x) x.1.1 x.1.2.1 x.1.2.2 x.2.1.1 x.2.2.length x.2.1.2 (some ⟨bg,0,none⟩) bc self db W (aL a.lt b.size) ((b.cell (p:=⟨db,0,none⟩) a.lt).trans (af a.box 0)) ((b.cell (p:=⟨db,1,none⟩) a.lt).trans (af a.box 1)) λe j=>by
  have c:=b.trans (j.mono b.size);have:=C7 n (D+1) x l (some ⟨bg,0,none⟩) bc e.heap.size self e ((r.below (c.mono h)).mono (ax h c.size)) (CE m c) (aj _) (eR g) (by rw[f];decide) (λt s=>eR ((gQ a.bnd).2 t s).1);rw[i,f]at this;exact this
 exact q
theorem dT.process(i:dT base db self n D k nx d w l bg bc sd sp sv pv lv)(x:Tm (n+1))(z:In base w (n+1) x)(m:bq (n+1) x=0)(u:1<=self/\self<=99):∀W,ai w W->ak 174 #[.pointer (some ⟨db,0,none⟩),.agg #[ab x.1.1,ab x.1.2.1,ae x.1.2.2,.slice x.2.1.1 x.2.2.length x.2.1.2]] W λe w'=>∃g,e=.returned (.tuple #[ab g,.bool (mK d.b self (n+1) x).isSome])/\Hid (ai W w'/\∀v,mK d.b self (n+1) x=some v->g=v):=by
 intro W j;have a:=JY i.bnd i.tells self x m;refine(zS (D+1+n) _ x.1.1 x.1.2.1 x.1.2.2 x.2.1.1 x.2.2.length x.2.1.2 db W λs t=>i.value x z m u s (j.trans (t.mono j.size))).mono ?_;rintro e w' ⟨g,rfl,p⟩;obtain⟨q,r⟩:=p.out;have o:Ee (np 0 (vl (D+1) l self (n+1) x))=(mK d.b self (n+1) x).isSome/\∀v,mK d.b self (n+1) x=some v->g=v:=by
  unfold mK;rw[<-a];cases e:np 0 (vl (D+1) l self (n+1) x)with
  | none=>exact⟨rfl,λv a=>by cases a⟩
  | some c=>
   have A:(cn (D+1+n+1) c).1=c.1:=rfl;have y:=r c e;simp only[Option.map_some,dn,Ee];by_cases h:c.1.1=3
   ·have f:(cn (D+1+n+1) c).1.1=3:=h;refine⟨?_,λv a=>?_⟩
    ·erw [if_pos f]
     simp[h]
    ·erw [if_pos f]at a
     rw[y,<-au a];rfl
   ·have f:¬(cn (D+1+n+1) c).1.1=3:=h;refine⟨?_,λv a=>?_⟩
    ·erw [if_neg f]
     simp[h]
    ·erw [if_neg f]at a
     cases a
 exact⟨g,by rw[o.1],q,o.2⟩
end
section
variable {base db:Nat} {self:Int} {n D k:Nat} {nx:Int} {d:Dg} {w:World} {l:List (Tm (D+1))} {bg bc:Nat} {sd:List (Int×Tm (D+1+n+1))} {sp:List (Int×ByteArray×Tm (D+1+n+1))} {sv pv lv:Value}
def xw(base db:Nat)(self:Int)(n D k:Nat)(nx:Int)(d:Dg)(a:Ac (n+1))(S:Nat->Prop)(w:World)(t:Bool)(w':World):Prop:=
 bk S w w'/\t=(qu self a d).isSome/\∀b,qu self a d=some b->Do base db self n D (k+1) nx b S w w'
theorem lS{w:World}{base:Nat}{e:TypeId}{g m:Nat}{v:Value}{xs:List Value}(f:w.ownsRow base e g v m xs):∃a c,v=.slice a m c:=by
 rcases f.2 with⟨b,d⟩|⟨i,cap,h,b,_⟩
 ·exact⟨none,0,by rw[b,d]⟩
 ·exact⟨_,cap,b⟩
theorem nM{w:World}{b:Nat}{v0 v1 v2 v3 a c d:Value}{t:TypeId}(e:w.heap[b]?=some (.cells #[v0,v1,v2,v3,a,c,d] t)):(∀v,(w.setCell ⟨b,3,none⟩ v).heap[b]?=some (.cells #[v0,v1,v2,v,a,c,d] t))/\(∀v,(w.setCell ⟨b,4,none⟩ v).heap[b]?=some (.cells #[v0,v1,v2,v3,v,c,d] t))/\(∀v,(w.setCell ⟨b,5,none⟩ v).heap[b]?=some (.cells #[v0,v1,v2,v3,a,v,d] t))/\(∀v,(w.setCell ⟨b,2,none⟩ v).heap[b]?=some (.cells #[v0,v1,v,v3,a,c,d] t))/\∀v,(w.setCell ⟨b,6,none⟩ v).heap[b]?=some (.cells #[v0,v1,v2,v3,a,c,v] t):=by
 refine⟨λv=>?_,λv=>?_,λv=>?_,λv=>?_,λv=>?_⟩<;>
 ·unfold World.setCell;simp[bG,e]
theorem ti{w:World}{b:Nat}{cs:Array Value}{t:TypeId}(a:w.heap[b]?=some (.cells cs t))(j:Nat):w.frozen? ⟨b,j,none⟩=false:=by simp[World.frozen?,a]
theorem dT.frame(c:dT base db self n D k nx d w l bg bc sd sp sv pv lv){w':World}{j h g:Value}(f:bk (kM db bg sv pv lv) w w')(m:∀q,kM db bg j h g q->kM db bg sv pv lv q\/w.heap.size<=q):(∀(i:Nat)(y:Tm (D+1)),l[i]?=some y->In w'.heap.size w' (D+1) y/\bZ (Ke base db bg j h g) (D+1) y)/\(∀a∈sd,bq _ a.2=0/\In w'.heap.size w' _ a.2/\bZ (Ke base db bg j h g) _ a.2)/\(∀a∈sp,bq _ a.2.2=0/\In w'.heap.size w' _ a.2.2/\bZ (Ke base db bg j h g) _ a.2.2)/\Below base w w':=
 ⟨λi y o=>rE f m (c.row i y o).2.1 (c.row i y o).2.2,λa e=>⟨(c.sIn a e).1,rE f m (c.sIn a e).2.1 (c.sIn a e).2.2⟩,λa e=>⟨(c.pIn a e).1,rE f m (c.pIn a e).2.1 (c.pIn a e).2.2⟩,f.below c.own.2.2.2.2 λb p q=>by
  have:=c.high b q
  omega⟩
theorem dT.link(g:dT base db self n D k nx d w l bg bc sd sp sv pv lv)(a:Ac (n+1))(Q:ic (n+1) base w a)(U:bq (n+1) a.2.1.1=0)(P:a.1=3)(Z:1<=self/\self<=99)(aq:k<=1000):ak 163 #[.pointer (some ⟨db,0,none⟩),Nr a] w λe w'=>∃t,e=.returned (.bool t)/\Hid (xw base db self n D k nx d a (kM db bg sv pv lv) w t w'):=by
 have J:=g.lRow;obtain⟨r,s,rfl⟩:=lS J;obtain⟨an,ao,ap,O⟩:=g.few;have u:qu self a d=(mK d.b self (n+1) a.2.1.1).map λx=>{d with links:=d.links++ [x]}:=by
  simp[qu,P]
 refine(FF a.1 a.2.1.1.1.1 a.2.1.1.1.2.1 a.2.1.1.1.2.2 a.2.1.1.2.1.1 a.2.1.1.2.2.length a.2.1.1.2.1.2 a.2.1.2.1.1 a.2.1.2.1.2.1 a.2.1.2.1.2.2 a.2.1.2.2.1.1 a.2.1.2.2.2.length a.2.1.2.2.1.2 a.2.2.1 a.2.2.2 base db r d.links.length s _ w (mK d.b self (n+1) a.2.1.1).isSome (λx=>∀y,mK d.b self (n+1) a.2.1.1=some y->x=y) (by omega) g.lt g.own.2.2.2.2 ⟨af g.box 5,ti g.box 5⟩ J g.apart.1.2.2 (g.process a.2.1.1 Q.2.1 U Z)).mono ?_;rintro e w' ⟨rfl,V,v⟩;refine⟨_,rfl,?_⟩;cases hp:mK d.b self (n+1) a.2.1.1 with
 | none=>
  have R:=V (by rw[hp];rfl);refine⟨aD R _,by rw[u,hp];rfl,λN o=>?_⟩;rw[u,hp]at o;cases o
 | some y=>
  obtain⟨x,m,c,z,ab,Y,j,i,rfl⟩:=v (by rw[hp];rfl);obtain rfl:=ab y hp;have T:z.heap[db]?=_:=(j.block db g.lt λf=>g.apart.1.2.2 f).trans g.box;have C:bk (kM db bg sv pv (.slice r d.links.length s)) w (z.setCell ⟨db,5,none⟩ (.slice (some ⟨m,0,none⟩) (d.links.length+1) c)):=bk.trans (j.mono λf _ h=>ah (ah (ah (ah h)))) (bt _ _ _ _) λf _ h=>ag h;have p:∀f,f<w.heap.size->¬(Value.slice r d.links.length s).ownBlock=some f->m≠f:=λf h W e=>by
   rcases i with i|i
   ·rw[e]at i;exact W i
   ·omega
  have H:∀f,kM db bg sv pv (.slice (some ⟨m,0,none⟩) (d.links.length+1) c) f->kM db bg sv pv (.slice r d.links.length s) f\/w.heap.size<=f:=λf h=>by
   rcases h with h|h|h|h|h
   ·exact ag (ag h)
   ·exact ag (ah (ag h))
   ·exact ag (ah (ah (ag h)))
   ·exact ag (ah (ah (ah (ag h))))
   ·have:m=f:=au h;subst this;rcases i with i|i
    ·exact ag (ah (ah (ah (ah i))))
    ·exact ah i
  obtain⟨aj,al,am,aw⟩:=g.frame C H;refine⟨C,by rw[u,hp];rfl,λN o=>?_⟩;rw[u,hp]at o;obtain rfl:=au o;have ar:=C.size;obtain⟨F,ae,ai,G,av⟩:=g.own;have q:=bt z db 5 (.slice (some ⟨m,0,none⟩) (d.links.length+1) c);have aa:∀f,sv.ownBlock=some f->f<w.heap.size:=λf h=>by
   obtain⟨M,B⟩:=dS g.sRow f h;exact(aC.1 B).1
  have X:∀f,pv.ownBlock=some f->f<w.heap.size:=λf h=>by
   obtain⟨M,B⟩:=dS g.pRow f h;exact(aC.1 B).1
  have A:¬(Value.slice r d.links.length s).ownBlock=some bg:=g.apart.2.1.2.2;refine⟨l,bg,bc,sd,sp,sv,pv,_,⟨(nM T).2.2.1 _,⟨F,ae,ai,by omega,by omega⟩,g.bnd,g.tells,λK L v=>⟨?_,aj K L v⟩,λad=>?_,?_,?_,?_,g.sIs,g.pIs,al,am,⟨⟨g.apart.1.1,g.apart.1.2.1,?_⟩,⟨g.apart.2.1.1,g.apart.2.1.2.1,?_⟩,λf=>⟨λh=>⟨((g.apart.2.2 f).1 h).1,?_⟩,λh=>?_⟩⟩,⟨by omega,by omega,by simp;omega,O⟩⟩,H⟩
  ·exact((g.row K L v).1.kee j G A).kee q (by have:=j.size;omega) (λe=>F e.symm)
  ·have S:(z.setCell ⟨db,5,none⟩ (.slice (some ⟨m,0,none⟩) (d.links.length+1) c)).heap[bg]?=w.heap[bg]? :=(q.block bg (by have:=j.size;omega) (λe=>F e.symm)).trans (j.block bg G A);have I:=g.free ad;unfold World.frozen? at I ⊢;rw[S];exact I
  ·exact aY (aY g.sRow j λf h E=>((g.apart.2.2 f).1 h).2 E) q λf h e=>g.apart.1.1 (by rw[h,e])
  ·exact aY (aY g.pRow j λf h E=>(g.apart.2.2 f).2 h E) q λf h e=>g.apart.1.2.1 (by rw[h,e])
  ·have:=aY Y q λf h e=>p db g.lt g.apart.1.2.2 (by
     have:m=f:=au h
     rw[this,e])
   simpa using this
  ·exact λe=>p db g.lt g.apart.1.2.2 (au e)
  ·exact λe=>p bg G A (au e)
  ·exact λe=>p f (aa f h) (((g.apart.2.2 f).1 h).2) (au e)
  ·exact λe=>p f (X f h) ((g.apart.2.2 f).2 h) (au e)
end
section
variable {base db:Nat} {self:Int} {n D k:Nat} {nx:Int} {d:Dg} {w:World} {l:List (Tm (D+1))} {bg bc:Nat} {sd:List (Int×Tm (D+1+n+1))} {sp:List (Int×ByteArray×Tm (D+1+n+1))} {sv pv lv:Value}
theorem Lv{N:Nat}{o:Option (Tm N)}{c:Tm N}(a:np 0 o=some c):bq N c=0:=by
 unfold np at a;rw[if_pos rfl]at a;obtain⟨d,_,a⟩:=br.1 a;by_cases b:bq N d=0
 ·rw[if_pos b]at a;rw[<-au a];exact b
 ·rw[if_neg b]at a;cases a
theorem dT.told(e:dT base db self n D k nx d w l bg bc sd sp sv pv lv)(x:Tm (n+1))(h:bq (n+1) x=0):(np 0 (vl (D+1) l self (n+1) x)).isSome=(rS d.b self (n+1) x).isSome/\∀(a:Tm (D+1+n+1)) t,rS d.b self (n+1) x=some t->aw _ a (D+1+n+1) ((np 0 (vl (D+1) l self (n+1) x)).getD (vp (D+1+n)))=true->bq _ a=0/\aH _ a=true/\cn _ a=t:=by
 have m:=JY e.bnd e.tells self x h;refine⟨by rw[<-m,Option.isSome_map],λa t f c=>?_⟩;have p:=Nj (Jq e.bnd e.tells) h f;rw[<-m]at f;obtain⟨q,o,rfl⟩:=cd.1 f;rw[o]at c;have c:aw _ a _ q=true:=c;have i:=(bL c).trans (Lv o);have j:=gR c;refine⟨i,?_,j⟩;have g:=p.2.1;rw[<-j,lE i]at g;exact g
theorem dT.send(h:dT base db self n D k nx d w l bg bc sd sp sv pv lv)(a:Ac (n+1))(P:ic (n+1) base w a)(ae:bq (n+1) a.2.1.1=0)(Q:bq (n+1) a.2.1.2=0)(aa:a.1=1)(V:1<=self/\self<=99)(aH:k<=1000):ak 161 #[.pointer (some ⟨db,0,none⟩),Nr a] w λe w'=>∃t,e=.returned (.bool t)/\Hid (xw base db self n D k nx d a (kM db bg sv pv lv) w t w'):=by
 have U:=h.sRow;obtain⟨y,z,rfl⟩:=lS U;obtain⟨aE,aF,aG,Z⟩:=h.few;have s:qu self a d=(mK d.b self (n+1) a.2.1.1).bind λx=>(rS d.b self (n+1) a.2.1.2).map λt=>{d with sends:=d.sends++ [(x,t)]}:=by
  simp[qu,aa]
 obtain⟨al,am⟩:=h.told (self:=self) a.2.1.2 Q;refine(Gr (D+1+n) a.1 a.2.1.1.1.1 a.2.1.1.1.2.1 a.2.1.1.1.2.2 a.2.1.1.2.1.1 a.2.1.1.2.2.length a.2.1.1.2.1.2 a.2.1.2.1.1 a.2.1.2.1.2.1 a.2.1.2.1.2.2 a.2.1.2.2.1.1 a.2.1.2.2.2.length a.2.1.2.2.1.2 a.2.2.1 a.2.2.2 base db y sd.length z _ w (mK d.b self (n+1) a.2.1.1).isSome (λx=>∀A,mK d.b self (n+1) a.2.1.1=some A->x=A) (np 0 (vl (D+1) l self (n+1) a.2.1.2)) (by omega) h.lt h.own.2.2.2.2 ⟨af h.box 3,ti h.box 3⟩ U h.apart.1.1 (h.process a.2.1.1 P.2.1 ae V) (h.value a.2.1.2 P.2.2.1 Q V)).mono ?_;rintro e w' ⟨rfl,K,i⟩;refine⟨_,rfl,?_⟩;rw[al]at K i ⊢;cases hp:mK d.b self (n+1) a.2.1.1 with
 | none=>
  have E:=K (by rw[hp];rfl);refine⟨aD E _,by rw[s,hp];rfl,λN p=>?_⟩;rw[s,hp]at p;cases p
 | some A=>
  cases g:rS d.b self (n+1) a.2.1.2 with
  | none=>
   have E:=K (by rw[hp,g];rfl);refine⟨aD E _,by rw[s,hp,g];rfl,λN p=>?_⟩;rw[s,hp,g]at p;cases p
  | some t=>
   obtain⟨x,r,j,c,B,an,ar,ap,W,aj,q,m,rfl⟩:=i (by rw[hp,g];rfl);obtain rfl:=an A hp;obtain⟨ao,_,av⟩:=am r t g ar;have ad:B.heap[db]?=_:=(q.block db h.lt λf=>h.apart.1.1 f).trans h.box;have I:bk (kM db bg (.slice y sd.length z) pv lv) w (B.setCell ⟨db,3,none⟩ (.slice (some ⟨j,0,none⟩) (sd.length+1) c)):=bk.trans (q.mono λf _ g=>ah (ah (ag g))) (bt _ _ _ _) λf _ g=>ag g;have v:∀f,f<w.heap.size->¬(Value.slice y sd.length z).ownBlock=some f->j≠f:=λf g ai e=>by
    rcases m with m|m
    ·rw[e]at m;exact ai m
    ·omega
   have O:∀f,kM db bg (.slice (some ⟨j,0,none⟩) (sd.length+1) c) pv lv f->kM db bg (.slice y sd.length z) pv lv f\/w.heap.size<=f:=λf g=>by
    rcases g with g|g|g|g|g
    ·exact ag (ag g)
    ·exact ag (ah (ag g))
    ·have:j=f:=au g;subst this;rcases m with m|m
     ·exact ag (ah (ah (ag m)))
     ·exact ah m
    ·exact ag (ah (ah (ah (ag g))))
    ·exact ag (ah (ah (ah (ah g))))
   obtain⟨az,aA,aB,aL⟩:=h.frame I O;refine⟨I,by rw[s,hp,g];rfl,λN p=>?_⟩;rw[s,hp,g]at p;obtain rfl:=au p;have aI:=I.size;have aJ:=q.size;obtain⟨L,ax,ay,M,aK⟩:=h.own;have u:=bt B db 3 (.slice (some ⟨j,0,none⟩) (sd.length+1) c);have S:∀f,lv.ownBlock=some f->f<w.heap.size:=λf g=>by
    obtain⟨Y,G⟩:=dS h.lRow f g;exact(aC.1 G).1
   have T:∀f,pv.ownBlock=some f->f<w.heap.size:=λf g=>by
    obtain⟨Y,G⟩:=dS h.pRow f g;exact(aC.1 G).1
   have F:¬(Value.slice y sd.length z).ownBlock=some bg:=h.apart.2.1.1;have aq:bZ (Ke base db bg (.slice (some ⟨j,0,none⟩) (sd.length+1) c) pv lv) _ r:=W.mono λf g=>by
    have:=h.lt;refine⟨by omega,λo=>?_⟩;rcases o with o|o|o|o|o
    ·omega
    ·omega
    ·exact g.2 (au o).symm
    ·have:=T f o;omega
    ·have:=S f o;omega
   refine⟨l,bg,bc,sd++ [(x,r)],sp,_,pv,lv,⟨(nM ad).1 _,⟨L,ax,ay,by omega,by omega⟩,h.bnd,h.tells,λX C i=>⟨?_,az X C i⟩,λaw=>?_,?_,?_,?_,?_,h.pIs,λC i=>?_,aB,⟨⟨?_,h.apart.1.2.1,h.apart.1.2.2⟩,⟨?_,h.apart.2.1.2.1,h.apart.2.1.2.2⟩,λf=>⟨λg=>⟨λe=>?_,λe=>?_⟩,(h.apart.2.2 f).2⟩⟩,⟨by simp;omega,by omega,by show d.links.length<=k+1;omega,Z⟩⟩,O⟩
   ·exact((h.row X C i).1.kee q M F).kee u (by omega) (λe=>L e.symm)
   ·have ab:(B.setCell ⟨db,3,none⟩ (.slice (some ⟨j,0,none⟩) (sd.length+1) c)).heap[bg]?=w.heap[bg]? :=(u.block bg (by omega) (λe=>L e.symm)).trans (q.block bg M F);have R:=h.free aw;unfold World.frozen? at R ⊢;rw[ab];exact R
   ·have:=aY aj u λf g e=>v db h.lt h.apart.1.1 (by
      have:j=f:=au g
      rw[this,e])
    simpa using this
   ·exact aY (aY h.pRow q λf g J=>((h.apart.2.2 f).1 J).1 g) u λf g e=>h.apart.1.2.1 (by rw[g,e])
   ·exact aY (aY h.lRow q λf g J=>((h.apart.2.2 f).1 J).2 g) u λf g e=>h.apart.1.2.2 (by rw[g,e])
   ·simp[h.sIs,av]
   ·rcases da.1 i with i|i
    ·exact aA C i
    ·obtain rfl:=dD.1 i;refine⟨ao,?_,aq⟩;refine ap.kee u (W.mono λf g e=>?_);have:=h.lt;omega
   ·exact λe=>v db h.lt h.apart.1.1 (au e)
   ·exact λe=>v bg M F (au e)
   ·have H:j=f:=au g;exact v f (T f e) (λr=>((h.apart.2.2 f).1 r).1 e) H
   ·have H:j=f:=au g;exact v f (S f e) (λr=>((h.apart.2.2 f).1 r).2 e) H
end
end Go.Proofs.YtckamaoibonjcaaGreat
