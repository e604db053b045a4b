/- What is proved here: plain facts and contracts that the claimed theorem stands on. No condition but those that each names. -/
import Derived.Test.YtckamaoibonjcaaGreatG19
namespace Go.Proofs.YtckamaoibonjcaaGreat
open Go.RowKit
set_option maxRecDepth 100000
set_option maxHeartbeats 1000000
def fl(n m:Nat):Option (Tm n)->Option (Tm m)->Prop
 | none,none=>True
 | some x,some y=>ax n x m y=true
 | _,_=>False
theorem mU{n m k l:Nat}{o:Option (Tm n)}{p:Option (Tm m)}{f:Tm n->Option (Tm k)}{g:Tm m->Option (Tm l)}(a:fl n m o p)(b:∀x y,ax n x m y=true->fl k l (f x) (g y)):fl k l (o.bind f) (p.bind g):=by
 cases o with
 | none=>
  cases p with
  | none=>trivial
  | some _=>exact a.elim
 | some x=>
  cases p with
  | none=>exact a.elim
  | some y=>exact b x y a
theorem iA{n m N M:Nat}(c:n<=N)(b:m<=M){x:Tm n}{y:Tm m}(d:az ⟨n,x⟩)(e:az ⟨m,y⟩)(a:ax n x m y=true):ax N (aO N n x) M (aO M m y)=true:=
 bQ _ _ _ _ _ _ (eZ N n c x d) (bQ _ _ _ _ _ _ a (dK _ _ _ _ (eZ M m b y e)))
theorem kF:(n:Nat)->(x:Tm n)->(m:Nat)->(y:Tm m)->ax n x m y=true->bO ⟨n,x⟩=bO ⟨m,y⟩/\oX n x=oX m y
 | 0,_,_,_,h=>by simp[ax]at h
 | _+1,_,0,_,h=>by simp[ax]at h
 | n+1,x,m+1,y,h=>by
  simp only[ax,aA,cm]at h;exact⟨h.1.1.1,h.1.1.2⟩
theorem xd{N M:Nat}{a c:Tm N}{b d:Tm M}(h:ax N a M b=true)(i:ax N c M d=true):fl (N+1) (M+1) (s9 N a c) (s9 M b d):=by
 have e:=kF _ _ _ _ h;have f:=kF _ _ _ _ i;have g:yP N a c=yP M b d:=by
  unfold yP;rw[e.1,e.2,f.1,f.2]
 unfold s9;rw[<-g,<-e.2,<-f.2];cases yP N a c
 ·simp[fl]
 ·simp[fl,ax,bK,aC]
theorem tI{i:Type}{N M:Nat}(f:i->Option (Tm N))(g:i->Option (Tm M)):(p:List i)->(∀a∈p,fl N M (f a) (g a))->fl (N+1) (M+1) ((cE f p).map (cX N)) ((cE g p).map (cX M))/\((cE f p=none/\cE g p=none)\/∃l r,cE f p=some l/\cE g p=some r/\aC (λx y=>ax N x M y) l r=true)
 | [],_=>⟨by simp[cE,fl,ax,cX,aC],ai ⟨[],[],rfl,rfl,rfl⟩⟩
 | a::p,h=>by
  have b:=h a (by simp);have n:=(tI f g p λx o=>h x (by simp[o])).2;simp only[cE];cases e1:f a with
  | none=>
   rw[e1]at b;cases c:g a with
   | none=>simp[fl]
   | some _=>rw[c]at b;exact b.elim
  | some m=>
   rw[e1]at b;cases c:g a with
   | none=>rw[c]at b;exact b.elim
   | some v=>
    rw[c]at b;have j:ax N m M v=true:=b;rcases n with⟨d,e⟩|⟨l,r,d,e,k⟩
    ·rw[d,e];simp[fl]
    ·rw[d,e];exact⟨by simp[fl,ax,cX,aC,j,k],ai ⟨m::l,v::r,rfl,rfl,by simp[aC,j,k]⟩⟩
theorem re(m:Nat)(b:List (Tm m))(f:Nat)(a:List (Tm f))(self:Int)(i:aC (λx y=>ax m x f y) b a=true)(p:∀y∈b,az ⟨m,y⟩)(q:∀y∈a,az ⟨f,y⟩):(n:Nat)->(x:Tm n)->az ⟨n,x⟩->fl (m+n) (f+n) (vl m b self n x) (vl f a self n x)
 | 0,_,_=>trivial
 | n+1,x,hx=>by
  have z:=cD _ _ _ i;have w:ax (n+1) x (n+1) x=true:=fe _ _ hx;unfold vl;by_cases k:x.1.1=5
  ·rw[if_pos k,if_pos k];cases e:b[x.1.2.1.toNat]? with
   | none=>
    have g:a[x.1.2.1.toNat]?=none:=by
     rw[List.getElem?_eq_none_iff]at e ⊢;omega
    rw[g];trivial
   | some y=>
    obtain⟨u,_⟩:=aR.1 e;have g:a[x.1.2.1.toNat]?=some a[x.1.2.1.toNat]:=aH (by omega);rw[g];have s:ax m y f a[x.1.2.1.toNat]=true:=je _ _ _ i _ _ _ e g;simp only[dh];rw[<-(kF _ _ _ _ s).1];by_cases d:bO ⟨m,y⟩=6
    ·rw[if_pos d,if_pos d];trivial
    ·rw[if_neg d,if_neg d];exact iA (by omega) (by omega) (p y (aG e)) (q _ (aG g)) s
  ·rw[if_neg k,if_neg k];by_cases d:x.1.1=6
   ·rw[if_pos d,if_pos d];trivial
   ·rw[if_neg d,if_neg d];by_cases j:x.1.1=4
    ·rw[if_pos j,if_pos j];by_cases r:tj n x.2.2 pn 0=true
     ·rw[if_pos r,if_pos r];simp[fl,ax,bK,aC]
     ·rw[if_neg r,if_neg r];by_cases l:tj n x.2.2 vm 2=true
      ·rw[if_pos l,if_pos l];cases e1:x.2.2[1]? with
       | none=>trivial
       | some h=>
        cases g:x.2.2[2]? with
        | none=>trivial
        | some c=>
         simp only[dh];exact mU (re m b f a self i p q n h (aT n x h hx (aG e1))) λA C u=>mU (re m b f a self i p q n c (aT n x c hx (aG g))) λB D v=>xd u v
      ·rw[if_neg l,if_neg l];by_cases o:tj n x.2.2 BI 1=true
       ·rw[if_pos o,if_pos o];cases e1:x.2.2[1]? with
        | none=>trivial
        | some h=>
         have t:=aT n x h hx (aG e1);simp only[dh];cases aJ n h
         ·simp[fl]
         ·exact iA (by omega) (by omega) t t (fe _ _ t)
       ·rw[if_neg o,if_neg o];exact(tI _ _ x.2.2 λy s=>re m b f a self i p q n y (aT n x y hx s)).1
    ·rw[if_neg j,if_neg j];exact iA (by omega) (by omega) hx hx w
def Kf:(D:Nat)->(n:Nat)->Tm n->Tm D
 | 0,_,_=>()
 | _+1,0,_=>((0,0,.empty),(none,0),[])
 | D+1,n+1,x=>(x.1,(none,0),x.2.2.map λy=>Kf D n y)
theorem Hp:(D:Nat)->(n:Nat)->(x:Tm n)->(m:Nat)->(y:Tm m)->ax n x m y=true->Kf D n x=Kf D m y
 | 0,_,_,_,_,_=>rfl
 | D+1,0,_,_,_,h=>by simp[ax]at h
 | D+1,n+1,_,0,_,h=>by simp[ax]at h
 | D+1,n+1,x,m+1,y,h=>by
  obtain⟨c,d⟩:=bD h;have e:=jZ _ (λa=>Kf D n a) (λb=>Kf D m b) _ _ (λa _ b f=>Hp D n a m b f) d;simp only[Kf,c,e];rfl
theorem zX{n:Nat}:(l:List (Tm n))->(m:Int)->m<=l.foldl (λm y=>max m (fh n y)) m/\∀y∈l,fh n y<=l.foldl (λm y=>max m (fh n y)) m
 | [],m=>⟨iN _,λy b=>by simp at b⟩
 | a::l,m=>by
  obtain⟨d,c⟩:=zX l (max m (fh n a));simp only[fH];refine⟨by omega,λy b=>?_⟩;rcases ch.1 b with rfl|b
  ·omega
  ·exact c y b
theorem nB{n:Nat}{x:Tm (n+1)}(e:az ⟨n+1,x⟩){y:Tm n}(c:y∈x.2.2):fh n y+1<=fh (n+1) x:=by
 have d:x.1.1=4:=by
  have b:=e _ (oL ..);simp only[cv,aA,ic,cm,oF,decide_eq_false_iff_not]at b;rcases b.2 with a|a
  ·exact a
  ·have:=List.length_pos_of_mem c;omega
 have:=(zX x.2.2 0).2 y c;simp only[fh,if_pos d];omega
theorem zF:(D:Nat)->(n:Nat)->(x:Tm n)->az ⟨n,x⟩->fh n x<D->ax D (Kf D n x) n x=true
 | _,0,_,h,_=>(dd h).elim
 | 0,n+1,x,_,h=>by
  have:=(fR (n+1) x).1;omega
 | D+1,n+1,x,hr,h=>da rfl (iD _ _ _ λy a=>zF D n y (aT n x y hr a) (by
  have:=nB hr a
  omega))
theorem jb:(D:Nat)->(n:Nat)->(x:Tm n)->az ⟨n,x⟩->fh n x<D->ax D (aO D n x) n x=true
 | _,0,_,h,_=>(dd h).elim
 | 0,n+1,x,_,h=>by
  have:=(fR (n+1) x).1;omega
 | D+1,n+1,x,hr,h=>da rfl (iD _ _ _ λy a=>jb D n y (aT n x y hr a) (by
  have:=nB hr a
  omega))
theorem IU(D n:Nat)(x:Tm n)(w:World)(b o:Nat)(g:0<D)(k:dE w b o n x):dE w b o D (aO D n x):=by
 cases n with
 | zero=>exact k.elim
 | succ n=>
  obtain⟨D,rfl⟩:∃a,D=a+1:=⟨D-1,by omega⟩;obtain⟨c,d,e,f⟩:=k;exact⟨c,d,e,by simpa [aO]using f⟩
theorem rN:(D n:Nat)->(x:Tm n)->(B:Nat)->(w:World)->az ⟨n,x⟩->fh n x<D->In B w n x->In B w D (aO D n x)
 | _,0,_,_,_,_,_,k=>k.elim
 | 0,n+1,x,_,_,_,h,_=>by
  have:=(fR (n+1) x).1;omega
 | D+1,n+1,x,B,w,hr,h,k=>by
  obtain⟨l,a⟩:=k;refine⟨by simpa [aO]using l,?_⟩;rcases a with a|⟨b,o,e,j,a⟩
  ·exact ah (by simp[aO,a])
  ·refine ai ⟨b,o,e,j,λi y g=>?_⟩;simp only[aO,dr]at g;obtain⟨c,d,rfl⟩:=cd.1 g;have f:=aG d;have p:=nB hr f;have m:=(fR n c).1;exact⟨IU D n c w b _ (by omega) (a i c d).1,rN D n c B w (aT n x c hr f) (by omega) (a i c d).2⟩
theorem ym(D n:Nat)(x:Tm (n+1)):dj (D+1) (aO (D+1) (n+1) x)=dj (n+1) x:=by
 simp[dj,aO]
theorem tm:(D n:Nat)->(x:Tm n)->(P:Nat->Prop)->az ⟨n,x⟩->fh n x<D->bZ P n x->bZ P D (aO D n x)
 | _,0,_,_,h,_,_=>(dd h).elim
 | 0,n+1,x,_,_,h,_=>by
  have:=(fR (n+1) x).1;omega
 | D+1,n+1,x,P,hr,h,k=>by
  rcases k with k|⟨b,o,e,g,k⟩
  ·exact ah (by simp[aO,k])
  ·refine ai ⟨b,o,e,g,λi y d=>?_⟩;simp only[aO,dr]at d;obtain⟨a,f,rfl⟩:=cd.1 d;have c:=aG f;have j:=nB hr c;exact tm D n a P (aT n x a hr c) (by omega) (k i a f)
abbrev Tc:Type:=Tm 13
def cn(n:Nat)(x:Tm n):Tc:=Kf 13 n x
theorem gV{n m:Nat}{x:Tm n}{y:Tm m}(a:ax n x m y=true):cn n x=cn m y:=Hp 13 n x m y a
theorem fj{n:Nat}{x:Tm n}(a:bu n x=0):ax 13 (cn n x) n x=true:=by
 obtain⟨b,c,_⟩:=bw.1 a;exact zF 13 n x (aL.2 b) (by omega)
theorem KE{n:Nat}{x:Tm n}(a:bu n x=0):cn 13 (cn n x)=cn n x:=gV (fj a)
theorem pC{n:Nat}{x:Tm n}(a:bu n x=0):bu 13 (cn n x)=0:=by rw[bM (fj a),a]
theorem DY{n:Nat}{x:Tm n}(a:bu n x=0):sz 13 (cn n x)=sz n x:=lh _ _ _ _ (fj a)
theorem lK{n:Nat}{x:Tm n}(a:bu n x=0):aJ 13 (cn n x)=aJ n x:=cw _ _ _ _ (fj a)
theorem Oq{n m:Nat}:(p:List (Tm n))->(q:List (Tm m))->aC (λx y=>ax n x m y) p q=true->p.map (cn n)=q.map (cn m):=λp q a=>jZ _ _ _ p q (λ_ _ _ b=>gV b) a
def mG:List An:=ns 1 (List.replicate 4 eT)
def NK(a:An):Tc:=cn a.1 a.2
def kQ{n:Nat}(c:Cl (n+1))(s m:Tc):Option (List Tc):=(gQ (n+1) c.1.1 13 s mG).bind λb=>(gQ (n+1) c.1.2.1 13 m b).map λa=>a.map NK
def lJ{n:Nat}(s m:Tc):List (Cl (n+1))->Option (Cl (n+1)×List Tc)
 | []=>none
 | c::l=>match kQ c s m with
  | some b=>some (c,b)
  | none=>lJ s m l
def rC{n:Nat}(l:List (Cl (n+1)))(s:Tc):List Tc->Nat->Option (Nat×Cl (n+1)×List Tc)
 | [],_=>none
 | m::ms,i=>match lJ s m l with
  | some x=>some (i,x)
  | none=>rC l s ms (i+1)
theorem FT{x y:An}(a:dT x y=true)(d:BY y):BY x:=by
 obtain⟨b,c⟩:=d;refine⟨(bM a).trans b,?_⟩;rw[uo a,cw _ _ _ _ a];exact c
theorem rW{d g:Type}(f:d->g->Bool):(p:List d)->(q:List g)->aC f p q=true->∀x∈p,∃y∈q,f x y=true
 | [],_,_,x,c=>by simp at c
 | _::_,[],h,_,_=>by simp[aC]at h
 | a::p,b::q,h,x,c=>by
  simp only[aC,aA]at h;rcases ch.1 c with rfl|c
  ·exact⟨b,by simp,h.1⟩
  ·obtain⟨y,i,e⟩:=rW f p q h.2 x c;exact⟨y,bI _ i,e⟩
theorem FU{p q:List An}(a:aC dT p q=true)(b:∀y∈q,BY y):∀x∈p,BY x:=λx c=>by
 obtain⟨y,d,e⟩:=rW _ _ _ a x c;exact FT e (b y d)
theorem rv{n:Nat}:(l:List (Tm n))->(b:List An)->(∀y∈b,az y/\y.1<=n)->aC (λx y=>ax n x n y) l (b.map λa=>aO n a.1 a.2)=true->aC dT (ns n l) b=true
 | [],[],_,_=>rfl
 | [],_::_,_,h=>by simp[aC]at h
 | _::_,[],_,h=>by simp[aC]at h
 | x::l,a::b,hb,h=>by
  simp only[aK,aC,aA]at h;simp only[ns,aK,aC,aA];obtain⟨c,d⟩:=hb a (by simp);exact⟨bQ _ _ _ _ _ _ h.1 (eZ n a.1 d a.2 c),rv l b (λy e=>hb y (bI _ e)) h.2⟩
theorem Hv{p q:List An}(a:aC dT p q=true):p.map NK=q.map NK:=jZ _ _ _ p q (λ_ _ _ b=>gV b) a
theorem tJ:aC dT mG mG=true:=by
 refine iE _ _ λa b=>?_;exact fe _ _ (qL (B5 a b))
theorem L5{n:Nat}{x:Tm n}(a:bu n x=0)(b:aJ n x=true):BY ⟨n,x⟩:=⟨a,ai b⟩
theorem bZ.both{P Q:Nat->Prop}:{n:Nat}->{x:Tm n}->bZ P n x->bZ Q n x->bZ (λb=>P b/\Q b) n x
 | 0,_,p,_=>p
 | _+1,_,p,k=>by
  rcases p with p|⟨b,o,e,g,p⟩
  ·exact ah p
  ·rcases k with k|⟨j,l,a,h,k⟩
   ·exact ah k
   ·rw[e]at a;injection a with a;injection a with d f;subst d f;exact ai ⟨b,o,e,⟨g,h⟩,λi y c=>(p i y c).both (k i y c)⟩
structure qh (D:Nat) (l:List (Tm D)) (B:List Tc) (b0:Nat) (w':World) (bg bc:Nat):Prop where
 bnd:fY D l=true
 tells:l.map (cn D)=B
 cap:4<=bc/\bc<=maxLen
 new:b0<=bg/\bg<w'.heap.size
 at':∀(i:Nat)(y:Tm D),l[i]?=some y->dE w' bg (i*4) D y/\In w'.heap.size w' D y/\bZ (λq=>b0<=q/\q≠bg) D y
 free:∀j,w'.frozen? ⟨bg,j,none⟩=false
def LY{n:Nat}(c:Cl (n+1))(s m:Tc)(w:World)(e:Ending)(w':World):Prop:=
 ∃b len f g,e=.returned (.tuple #[ae b len f,.bool g])/\Hid (aj w w'/\g=(kQ c s m).isSome/\∀a,kQ c s m=some a->len=4/\∃h l d,b=some ⟨d,0,none⟩/\qh h l a w.heap.size w' d f)
theorem Iq{n m k:Nat}(c:Cl (n+1))(s:Tm (m+1))(t:Tm (k+1))(R:bu (n+1) c.1.1=0)(S:bu (n+1) c.1.2.1=0)(A:bu (m+1) s=0)(T:aJ (m+1) s=true)(B:bu (k+1) t=0)(U:aJ (k+1) t=true){w w':World}{e:Ending}(Q:G6 (gQ (n+1) c.1.1 (m+1) s mG) (gQ (n+1) c.1.2.1 (k+1) t) w e w'):LY c (cn (m+1) s) (cn (k+1) t) w e w':=by
 obtain⟨K,len,P,ap,rfl,J⟩:=Q;obtain⟨V,Z,ae⟩:=J.out;refine⟨K,len,P,ap,rfl,V,?_⟩;have f:=lN (n+1) c.1.1 (m+1) s (n+1) c.1.1 13 (cn (m+1) s) mG mG (fe _ _ (aL.2 (bw.1 R).1)) (dK _ _ _ _ (fj A)) tJ;cases e1:gQ (n+1) c.1.1 (m+1) s mG with
 | none=>
  rw[e1]at f;cases e2:gQ (n+1) c.1.1 13 (cn (m+1) s) mG with
  | some _=>
   rw[e2]at f;exact f.elim
  | none=>
   have j:kQ c (cn (m+1) s) (cn (k+1) t)=none:=by simp[kQ,e2]
   rw[j];exact⟨Z e1,λz i=>by cases i⟩
 | some b=>
  rw[e1]at f;cases e2:gQ (n+1) c.1.1 13 (cn (m+1) s) mG with
  | none=>
   rw[e2]at f;exact f.elim
  | some q=>
   rw[e2]at f;have r:=kD BY nK (n+1) c.1.1 (m+1) s (L5 A T) mG b ⟨by simp[mG,ns],B5⟩ e1;obtain⟨o,X,aa,af⟩:=ae b e1;have p:aC dT (ns (mC b) o) b=true:=rv o b (λa d=>⟨qL (r.2 a d),yV b a d⟩) X;have L:aC dT (ns (mC b) o) q=true:=nN dT dT dT _ _ _ (λH _ a I aj G=>bQ H.1 H.2 a.1 a.2 I.1 I.2 aj G) p f;have g:=lN (n+1) c.1.2.1 (k+1) t (n+1) c.1.2.1 13 (cn (k+1) t) _ _ (fe _ _ (aL.2 (bw.1 S).1)) (dK _ _ _ _ (fj B)) L;cases e3:gQ (n+1) c.1.2.1 (k+1) t (ns (mC b) o)with
   | none=>
    rw[e3]at g;cases e4:gQ (n+1) c.1.2.1 13 (cn (k+1) t) q with
    | some _=>
     rw[e4]at g;exact g.elim
    | none=>
     have j:kQ c (cn (m+1) s) (cn (k+1) t)=none:=by simp[kQ,e2,e4]
     rw[j];exact⟨aa e3,λz i=>by cases i⟩
   | some h=>
    rw[e3]at g;cases e4:gQ (n+1) c.1.2.1 13 (cn (k+1) t) q with
    | none=>
     rw[e4]at g;exact g.elim
    | some N=>
     rw[e4]at g;have j:kQ c (cn (m+1) s) (cn (k+1) t)=some (N.map NK):=by simp[kQ,e2,e4]
     rw[j];obtain⟨ah,ai,E,av,l,aq,F⟩:=af h e3;refine⟨ah,λz i=>⟨ai,mC h,l,?_⟩⟩;cases i;have ab:=FU p r.2;have Y:(ns (mC b) o).length=4:=by rw[cD _ _ _ p];exact r.1
     have C:=kD BY nK (n+1) c.1.2.1 (k+1) t (L5 B U) _ h ⟨Y,ab⟩ e3;have D:∀a∈h,az a:=λa d=>qL (C.2 a d);obtain⟨_,v,ag,_⟩:=D9 F D E;have W:=xf C.2 v E ag;obtain⟨_,_,ar,ak,al,x⟩:=F;rcases x with x|⟨O,bo,rfl,⟨au,rfl,an,ao⟩,am,y⟩
     ·rw[x]at v;simp at v
     ·refine⟨O,rfl,W,?_,⟨by omega,ak⟩,⟨by omega,am⟩,λu a d=>⟨?_,(y u a d).2.1,(bZ.both (y u a d).2.2 (ao a (aG d))).mono λG ad=>⟨by omega,ad.2⟩⟩,an⟩;rotate_left
      ·have:=(y u a d).1;rw[cT]at this;exact this
      have M:aC dT (ns (mC h) l) h=true:=rv l h (λa d=>⟨D a d,yV h a d⟩) al;rw[<-Hv g,<-Hv M];simp[ns,NK]
theorem Gb{n m k:Nat}(c:Cl (n+1))(s:Tm (m+1))(t:Tm (k+1))(B:Nat)(w:World)(i:gO (n+1) B w c)(j:In B w (m+1) s)(l:In B w (k+1) t)(h:B<=w.heap.size)(a:bu (n+1) c.1.1=0)(b:bu (n+1) c.1.2.1=0)(d:bu (m+1) s=0)(e:aJ (m+1) s=true)(f:bu (k+1) t=0)(g:aJ (k+1) t=true):am 101 #[.agg (eK (n+1) c).toArray,dj (m+1) s,dj (k+1) t] w (LY c (cn (m+1) s) (cn (k+1) t) w):=
 (Ga n m k c s t B w i j l h a b d (by rw[<-eY];exact e) f (by rw[<-eY];exact g)).mono λ_ _ o=>Iq c s t a b d e f g o
theorem lf:(N n:Nat)->n<=N->(x:Tm n)->aJ N (aO N n x)=aJ n x
 | 0,0,_,_=>rfl
 | _+1,0,_,_=>by simp[aO,aJ]
 | 0,n+1,h,_=>by omega
 | N+1,n+1,h,x=>by
  have:(x.2.2.map λy=>aO N n y).all (λy=>aJ N y)=x.2.2.all λy=>aJ n y:=by
   rw[List.all_map];congr 1;funext y;exact lf N n (by omega) y
  simp only[aJ,aO];rw[this]
theorem xo(m:Nat)(b:List (Tm m))(self:Int)(k:∀y∈b,bO ⟨m,y⟩=6\/aJ m y=true):(n:Nat)->(x:Tm n)->az ⟨n,x⟩->(j:Tm (m+n))->vl m b self n x=some j->aJ (m+n) j=true
 | 0,_,_,_,d=>by simp[vl]at d
 | n+1,x,hr,j,d=>by
  have p:=eq (bA n x) (hr (bA n x) (by simp[aw,bA]));by_cases g:x.1.1=6
  ·rw[JY m b self n x g]at d;cases d
  ·by_cases f:x.1.1=5
   ·simp only[vl,f,cI]at d;obtain⟨y,h,d⟩:=br.1 d;split at d
    ·cases d
    ·rename_i t;obtain rfl:=au d;exact(lf (m+n+1) m (by omega) y).trans ((k y (aG h)).resolve_left t)
   ·by_cases e:x.1.1=4
    ·rw[JZ m b self n x e]at d;unfold vL at d;split at d
     ·obtain rfl:=au d;simp[bK,aJ]
     ·split at d
      ·obtain⟨a,q,d⟩:=br.1 d;obtain⟨c,D,d⟩:=br.1 d;obtain⟨A,C,d⟩:=br.1 d;obtain⟨B,E,d⟩:=br.1 d;unfold s9 at d;split at d
       ·obtain rfl:=au d;simp[bK,aJ]
       ·cases d
      ·split at d
       ·obtain⟨a,q,d⟩:=br.1 d;split at d
        ·rename_i r;obtain rfl:=au d;exact(lf (m+n+1) n (by omega) a).trans r
        ·cases d
       ·obtain⟨l,u,rfl⟩:=cd.1 d;obtain⟨w,z⟩:=qp _ _ _ u;show aJ (m+n+1) (cX (m+n) l)=true;simp only[aJ,cX];simp only[aA,b9];refine⟨by decide,λy h=>?_⟩;obtain⟨i,o⟩:=cO h;have s:i<x.2.2.length:=by rw[<-w];exact(aR.1 o).1
        exact xo m b self k n x.2.2[i] (aT n x _ hr (jl _)) y (z i _ y (aH s) o)
    ·rw[EI m b self n x e f g]at d;obtain rfl:=au d;have v:x.2.2=[]:=bH (p.2.2.2.2 e);refine(lf (m+n+1) (n+1) (by omega) x).trans ?_;simp[aJ,f,g,v]
def fX(n:Nat)(name:ByteArray):List (Bh n)->Option (Bh n)
 | []=>none
 | b::l=>if b.1=name then some b else fX n name l
def KD(n:Nat):Option (Bh n)->Value
 | none=>ae none 0 0
 | some b=>ae b.2.1.1 b.2.2.length b.2.1.2
theorem nX(n:Nat)(name:ByteArray){l:List (Bh n)}{j:Nat}{b:Bh n}(c:l[j]?=some b):fX n name (l.drop j)=if b.1=name then some b else fX n name (l.drop (j+1)):=by
 obtain⟨d,a⟩:=aR.1 c;rw[eV d,a];rfl
theorem tT(n:Nat)(name:ByteArray)(l:List (Bh n))(r:Option Addr)(D len B:Nat)(w:World)(G:l.length=len)(H:len<=9223372036854775807)(z:B<=w.heap.size)(x:Hid (gP n B w r l)):am 70 #[ae r len D,af name] w λe w'=>e=.returned (KD n (fX n name l))/\aj w w':=by
 go_enter Tryz.func70,Tryz.ntmps70;go_wp2_with fail;go_loopw [9] (λq wr=>∃a:Nat,a<=len/\q=ab a/\Hid (aj w wr/\fX n name l=fX n name (l.drop a))) (λq _=>len-(intOf q).toNat)
 case atStart=>exact⟨0,by omega,rfl,ap _ _,rfl⟩
 case round=>
 obtain⟨a,F,rfl,c⟩:=hrel;by_cases I:a<len
 ·obtain⟨b,d⟩:∃b,l[a]?=some b:=⟨l[a]'(by omega),aH _⟩;obtain⟨k,lo,rfl,C,v⟩:∃g o,r=some ⟨g,o,none⟩/\g<B/\Hid (∀(t:Nat)(f:Value),(oW n b)[t]?=some f->w.cell? ⟨g,o+a*2+t,none⟩=some f):=by
   rcases x.out with e|⟨g,o,e,A,y⟩
   ·rw[e]at d;simp at d
   ·exact⟨g,o,e,A,(y a _ d).1⟩
  have i:∀(t:Nat)(f:Value),(oW n b)[t]?=some f->wr.cell? ⟨k,lo+a*2+t,none⟩=some f:=λt f u=>(c.out.1.cell (p:=⟨k,lo+a*2+t,none⟩) (aN C z)).trans (v.out t f u);have E:wr.cell? ⟨k,lo+a*2,none⟩=some (af b.1):=i 0 _ rfl;have L:wr.cell? ⟨k,lo+a*2+1,none⟩=some (ae b.2.1.1 b.2.2.length b.2.1.2):=i 1 _ rfl;have J:(0:Int)<=(a:Int):=by omega
  have K:(a:Int)<(len:Int):=by omega
  have s:Hid (∀o:Obj,aj w (wr.alloc o)):=λo=>c.out.1.alloc c.out.1.size o;by_cases j:b.1=name
  ·have h:Hid (fX n name l=some b):=by
     show _=_;rw[c.out.2,nX n name d,if_pos j]
   have m:Hid (KD n (fX n name l)=ae b.2.1.1 b.2.2.length b.2.1.2):=by
    show _=_;rw[h.out];rfl
   rw[j]at E;clear i c h d;go_wp2_with fail
   go_ret
   rw[m.out];exact⟨rfl,s.out _⟩
  ·have h:Hid (fX n name l=fX n name (l.drop (a+1))):=by
     show _=_;rw[c.out.2,nX n name d,if_neg j]
   have u:(b.1.toList==name.toList)=false:=by
    rw[gn];intro e;rw[b8,b8]at e;exact j (ByteArray.ext (Array.ext' e))
   clear i c d;go_wp2_with fail;go_roundw
   case rel=>exact⟨a+1,by omega,by go_num,s.out _,h.out⟩
   case measure=>simp[intOf];omega
 ·obtain rfl:a=len:=by omega
  have m:Hid (KD n (fX n name l)=ae none 0 0):=by
   show _=_;rw[c.out.2,oI (by omega)];rfl
  have HB:=ao c.out.1;clear c;go_wp2_with fail
  go_ret
  rw[m.out];exact⟨rfl,HB.out⟩
def rn(b:List Tc)(self:Int)(n:Nat)(x:Tm n):Option Tc:=(vl 13 b self n x).bind λa=>if bu (13+n) a=0 then some (cn (13+n) a)else none
def mR(b:List Tc)(self:Int)(n:Nat)(x:Tm n):Option Int:=(rn b self n x).bind λt=>if t.1.1=3 then some t.1.2.1 else none
structure Dg where
 b:List Tc
 next:Int
 sends:List (Int×Tc)
 spawns:List (Int×ByteArray×Tc)
 links:List Int
 stops:Bool
def C4(a:Int):Tc:=((3,a,.empty),(none,0),[])
def qz(self:Int){n:Nat}(a:Ac (n+1))(d:Dg):Option Dg:=
 if a.1=1 then (mR d.b self (n+1) a.2.1.1).bind λc=>(rn d.b self (n+1) a.2.1.2).map λt=>{d with sends:=d.sends++ [(c,t)]}
 else if a.1=2 then (rn d.b self (n+1) a.2.1.2).bind λt=>if bO ⟨13,(d.b[a.2.2.2.toNat]?).getD (C4 0)⟩=6 then some {d with b:=d.b.set a.2.2.2.toNat (C4 d.next),next:=d.next+1,spawns:=d.spawns++ [(d.next,a.2.2.1,t)]}else none
 else if a.1=3 then (mR d.b self (n+1) a.2.1.1).map λc=>{d with links:=d.links++ [c]}
 else some {d with stops:=true}
def pE(self:Int){n:Nat}:List (Ac (n+1))->Dg->Option Dg
 | [],d=>some d
 | a::l,d=>(qz self a d).bind (pE self l)
structure Tk where
 message:Tc
 fate:Int
 sends:List (Int×Tc)
 spawns:List (Int×ByteArray×Tc)
 links:List Int
 state:Tc
 mail:List Tc
def eO{n:Nat}(room self next:Int)(s m:Tc)(ms:List Tc)(c:Cl (n+1))(b:List Tc):Tk:=
 match pE self c.2.2 ⟨b,next,[],[],[],false⟩with
 | none=>⟨m,2,[],[],[],s,ms⟩
 | some a=>match rn a.b self (n+1) c.1.2.2 with
  | none=>⟨m,2,[],[],[],s,ms⟩
  | some t=>if (ms.map (sz 13)).sum+sz 13 t<=room then ⟨m,if a.stops then 1 else 0,a.sends,a.spawns,a.links,t,ms⟩else ⟨m,3,[],[],[],s,ms⟩
def f9{n:Nat}(name:ByteArray)(l:List (Bh (n+1))):List (Cl (n+1)):=((fX (n+1) name l).map λb=>b.2.2).getD []
def l6{n:Nat}(room:Int)(l:List (Bh (n+1)))(name:ByteArray)(self next:Int)(s:Tc)(ms:List Tc):Option Tk:=
 (rC (f9 name l) s ms 0).bind λa=>(ms[a.1]?).map λb=>eO room self next s b (ms.eraseIdx a.1) a.2.1 a.2.2
theorem wR{D:Nat}{l:List (Tm D)}{B:List Tc}(c:fY D l=true)(d:l.map (cn D)=B):aC (λx y=>ax D x 13 y) l B=true:=by
 rw[<-d];refine pT (λy x=>ax 13 y D x) _ _ _ (λf _ b a=>dK _ _ _ _ a) (iD _ _ _ λy e=>?_);exact fj ((gU c).2 y e).1
theorem Jp{D:Nat}{l:List (Tm D)}{B:List Tc}(b:fY D l=true)(c:l.map (cn D)=B):fY 13 B=true:=by
 have e:=wR b c;obtain⟨f,g⟩:=gU b;unfold fY;rw[<-cD _ _ _ e,f];simp only[decide_true,eg,b9];intro k d;rw[<-c]at d;obtain⟨j,i,rfl⟩:=ci.1 d;have a:=g j i;have h:=fj a.1;simp only[AR,aA,cm,ic];refine⟨pC a.1,?_⟩;rw[j0 h,<-eY,lK a.1];exact a.2.2
theorem JX{D n:Nat}{l:List (Tm D)}{B:List Tc}(b:fY D l=true)(g:l.map (cn D)=B)(self:Int)(x:Tm n)(k:bu n x=0):(nu 0 (vl D l self n x)).map (cn (D+n))=rn B self n x:=by
 have j:az ⟨n,x⟩:=aL.2 (bw.1 k).1;have i:=Jp b g;have a:=re D l 13 B self (wR b g) (λd c=>aL.2 (bw.1 ((gU b).2 d c).1).1) (λd c=>aL.2 (bw.1 ((gU i).2 d c).1).1) n x j;unfold rn nu;cases e1:vl D l self n x with
 | none=>
  rw[e1]at a;cases e2:vl 13 B self n x with
  | none=>rfl
  | some _=>
   rw[e2]at a;exact a.elim
 | some m=>
  rw[e1]at a;cases e2:vl 13 B self n x with
  | none=>
   rw[e2]at a;exact a.elim
  | some h=>
   rw[e2]at a;have f:ax (D+n) m (13+n) h=true:=a;simp only[cI,dh];rw[bM f];by_cases e:bu (13+n) h=0
   ·simp[e,gV f]
   ·simp[e]
theorem Nh{n:Nat}{B:List Tc}(d:fY 13 B=true){self:Int}{x:Tm n}(f:bu n x=0){t:Tc}(a:rn B self n x=some t):bu 13 t=0/\aJ 13 t=true/\cn 13 t=t:=by
 have e:az ⟨n,x⟩:=aL.2 (bw.1 f).1;unfold rn at a;obtain⟨c,h,a⟩:=br.1 a;by_cases b:bu (13+n) c=0
 ·rw[if_pos b]at a;obtain rfl:=au a;refine⟨pC b,?_,KE b⟩;rw[lK b];exact xo 13 B self (λi g=>((gU d).2 i g).2.2) n x e c h
 ·rw[if_neg b]at a;cases a
def kS(b a:Nat)(d c lv:Value)(q:Nat):Prop:=q=b\/q=a\/d.ownBlock=some q\/c.ownBlock=some q\/lv.ownBlock=some q
def Ke(base b a:Nat)(d c lv:Value)(q:Nat):Prop:=base<=q/\¬kS b a d c lv q
structure dW (base db:Nat) (me:Int) (n D k:Nat) (nx:Int) (d:Dg) (w:World) (l:List (Tm (D+1))) (bg bc:Nat) (sd:List (Int×Tm (D+1+n+1))) (sp:List (Int×ByteArray×Tm (D+1+n+1))) (sv pv lv:Value):Prop where
 box:w.heap[db]?=some (.cells #[ae (some ⟨bg,0,none⟩) 4 bc,ab me,ab d.next,sv,pv,lv,.bool d.stops] 155)
 own:db≠bg/\base<=db/\base<=bg/\bg<w.heap.size/\base<=w.heap.size
 bnd:fY (D+1) l=true
 tells:l.map (cn (D+1))=d.b
 row:∀(i:Nat)(y:Tm (D+1)),l[i]?=some y->dE w bg (i*4) (D+1) y/\In w.heap.size w (D+1) y/\bZ (Ke base db bg sv pv lv) (D+1) y
 free:∀j,w.frozen? ⟨bg,j,none⟩=false
 sRow:w.ownsRow base 162 5 sv sd.length (sd.flatMap λz=>L9 z.1 z.2)
 pRow:w.ownsRow base 159 6 pv sp.length (sp.flatMap λz=>M7 z.1 z.2.1 z.2.2)
 lRow:w.ownsRow base 3 1 lv d.links.length (d.links.map λu=>ab u)
 sIs:sd.map (λz=>(z.1,cn _ z.2))=d.sends
 pIs:sp.map (λz=>(z.1,z.2.1,cn _ z.2.2))=d.spawns
 sIn:∀z∈sd,bu _ z.2=0/\In w.heap.size w _ z.2/\bZ (Ke base db bg sv pv lv) _ z.2
 pIn:∀z∈sp,bu _ z.2.2=0/\In w.heap.size w _ z.2.2/\bZ (Ke base db bg sv pv lv) _ z.2.2
 apart:(sv.ownBlock≠some db/\pv.ownBlock≠some db/\lv.ownBlock≠some db)/\(sv.ownBlock≠some bg/\pv.ownBlock≠some bg/\lv.ownBlock≠some bg)/\∀q,(sv.ownBlock=some q->pv.ownBlock≠some q/\lv.ownBlock≠some q)/\(pv.ownBlock=some q->lv.ownBlock≠some q)
 few:sd.length<=k/\sp.length<=k/\d.links.length<=k/\d.next=nx+sp.length/\1<=nx/\nx<=92
def Do(base b:Nat)(self:Int)(n D k:Nat)(g:Int)(d:Dg)(S:Nat->Prop)(w0 w:World):Prop:=∃l a f h i e c lv,dW base b self n D k g d w l a f h i e c lv/\∀q,kS b a e c lv q->S q\/w0.heap.size<=q
theorem rK{base n:Nat}{x:Tm n}{S c:Nat->Prop}{w w':World}(k:bq S w w')(f:∀q,c q->S q\/w.heap.size<=q)(d:In w.heap.size w n x)(e:bZ (λq=>base<=q/\¬S q) n x):In w'.heap.size w' n x/\bZ (λq=>base<=q/\¬c q) n x:=by
 refine⟨d.kee k (e.mono λq a=>a.2),(In.offB e d).mono λq a=>⟨a.1.1,λb=>?_⟩⟩;rcases f q b with b|b
 ·exact a.1.2 b
 ·have:=a.2;omega
theorem CI{w w':World}{n:Nat}{q:List (Tm n)}{a:Option Addr}(c:fp w.heap.size w n q a)(d:aj w w'):fp w'.heap.size w' n q a:=by
 rcases c.below d with c|⟨b,o,h,i,c⟩
 ·exact ah c
 ·exact ai ⟨b,o,h,aN i d.size,λf g e=>⟨(c f g e).1,(c f g e).2.mono d.size⟩⟩
section
variable {base db:Nat} {self:Int} {n D k:Nat} {nx:Int} {d:Dg} {w:World} {l:List (Tm (D+1))} {bg bc:Nat} {sd:List (Int×Tm (D+1+n+1))} {sp:List (Int×ByteArray×Tm (D+1+n+1))} {sv pv lv:Value}
theorem dW.lt(a:dW base db self n D k nx d w l bg bc sd sp sv pv lv):db<w.heap.size:=(aD.1 a.box).1
theorem dW.high(c:dW base db self n D k nx d w l bg bc sd sp sv pv lv):∀q,kS db bg sv pv lv q->base<=q:=by
 intro q a;obtain⟨_,i,j,_⟩:=c.own;have f:∀{b:TypeId}{r o:Nat}{g:Value}{p:List Value},w.ownsRow base b r g o p->g.ownBlock=some q->base<=q:=λm e=>by
  rcases m.2 with⟨b,_⟩|⟨h,cap,s,b,t,_⟩
  ·rw[b]at e;cases e
  ·rw[b]at e;have:h=q:=au e;omega
 rcases a with rfl|rfl|a|a|a
 ·exact i
 ·exact j
 ·exact f c.sRow a
 ·exact f c.pRow a
 ·exact f c.lRow a
theorem dW.later(a:dW base db self n D k nx d w l bg bc sd sp sv pv lv){w':World}(e:aj w w'):dW base db self n D k nx d w' l bg bc sd sp sv pv lv:=by
 have h:=aI e (λ_=>False);have i:=e.size;obtain⟨t,u,v,q,y⟩:=a.own;refine⟨(e.block db a.lt).trans a.box,⟨t,u,v,by omega,by omega⟩,a.bnd,a.tells,λs x r=>?_,λo=>?_,bf a.sRow h λ_ _ g=>g,bf a.pRow h λ_ _ g=>g,bf a.lRow h λ_ _ g=>g,a.sIs,a.pIs,λm j=>?_,λm j=>?_,a.apart,a.few⟩
 ·obtain⟨f,b,c⟩:=a.row s x r;exact⟨f.below e q,(b.below e).mono i,c⟩
 ·exact(e.frozen (p:=⟨bg,o,none⟩) q).trans (a.free o)
 ·obtain⟨f,b,c⟩:=a.sIn m j;exact⟨f,(b.below e).mono i,c⟩
 ·obtain⟨f,b,c⟩:=a.pIn m j;exact⟨f,(b.below e).mono i,c⟩
theorem dW.more(a:dW base db self n D k nx d w l bg bc sd sp sv pv lv){e:Nat}(i:k<=e):dW base db self n D e nx d w l bg bc sd sp sv pv lv:=by
 obtain⟨h,b,c,g,f⟩:=a.few;exact{a with few:=⟨by omega,by omega,by omega,g,f⟩}
theorem dW.lies(a:dW base db self n D k nx d w l bg bc sd sp sv pv lv):fp w.heap.size w (D+1) l (some ⟨bg,0,none⟩):=ai ⟨bg,0,rfl,a.own.2.2.2.1,λi y b=>by
 rw[cT]
 exact⟨(a.row i y b).1,(a.row i y b).2.1⟩⟩
theorem dW.value(a:dW base db self n D k nx d w l bg bc sd sp sv pv lv)(x:Tm (n+1))(r:In base w (n+1) x)(g:bu (n+1) x=0)(o:1<=self/\self<=99):∀W,aj w W->am 103 #[aF db,.agg #[ab x.1.1,ab x.1.2.1,af x.1.2.2,ae x.2.1.1 x.2.2.length x.2.1.2]] W (vP (D+1+n) (nu 0 (vl (D+1) l self (n+1) x)) W):=by
 intro W b;have i:EA (bu (n+1) x) (fY (D+1) l) self=0:=by simp[EA,g,a.bnd,o]
 have f:=(gU a.bnd).1;have m:=a.lies;have h:=a.own.2.2.2.2;have q:=xV (D+1+n) 0 (vl (D+1) l self (n+1) x) x.1.1 x.1.2.1 x.1.2.2 x.2.1.1 x.2.2.length x.2.1.2 (some ⟨bg,0,none⟩) bc self db W (aN a.lt b.size) ((b.cell (p:=⟨db,0,none⟩) a.lt).trans (ag a.box 0)) ((b.cell (p:=⟨db,1,none⟩) a.lt).trans (ag a.box 1)) λe j=>by
  have c:=b.trans (j.mono b.size);have:=Dc n (D+1) x l (some ⟨bg,0,none⟩) bc e.heap.size self e ((r.below (c.mono h)).mono (ay h c.size)) (CI m c) (ak _) (eN g) (by rw[f];decide) (λt s=>eN ((gU a.bnd).2 t s).1);rw[i,f]at this;exact this
 exact q
theorem dW.process(i:dW base db self n D k nx d w l bg bc sd sp sv pv lv)(x:Tm (n+1))(z:In base w (n+1) x)(m:bu (n+1) x=0)(u:1<=self/\self<=99):∀W,aj w W->am 174 #[aF db,.agg #[ab x.1.1,ab x.1.2.1,af x.1.2.2,ae x.2.1.1 x.2.2.length x.2.1.2]] W λe w'=>∃g,e=.returned (.tuple #[ab g,.bool (mR d.b self (n+1) x).isSome])/\Hid (aj W w'/\∀v,mR d.b self (n+1) x=some v->g=v):=by
 intro W j;have a:=JX i.bnd i.tells self x m;refine(zZ (D+1+n) _ x.1.1 x.1.2.1 x.1.2.2 x.2.1.1 x.2.2.length x.2.1.2 db W λs t=>i.value x z m u s (j.trans (t.mono j.size))).mono ?_;rintro e w' ⟨g,rfl,p⟩;obtain⟨q,r⟩:=p.out;have o:Ej (nu 0 (vl (D+1) l self (n+1) x))=(mR d.b self (n+1) x).isSome/\∀v,mR d.b self (n+1) x=some v->g=v:=by
  unfold mR;rw[<-a];cases e:nu 0 (vl (D+1) l self (n+1) x)with
  | none=>exact⟨rfl,λv a=>by cases a⟩
  | some c=>
   have A:(cn (D+1+n+1) c).1=c.1:=rfl;have y:=r c e;simp only[Option.map_some,dh,Ej];by_cases h:c.1.1=3
   ·have f:(cn (D+1+n+1) c).1.1=3:=h;refine⟨?_,λv a=>?_⟩
    ·erw [if_pos f]
     simp[h]
    ·erw [if_pos f]at a
     rw[y,<-au a];rfl
   ·have f:¬(cn (D+1+n+1) c).1.1=3:=h;refine⟨?_,λv a=>?_⟩
    ·erw [if_neg f]
     simp[h]
    ·erw [if_neg f]at a
     cases a
 exact⟨g,by rw[o.1],q,o.2⟩
end
section
variable {base db:Nat} {self:Int} {n D k:Nat} {nx:Int} {d:Dg} {w:World} {l:List (Tm (D+1))} {bg bc:Nat} {sd:List (Int×Tm (D+1+n+1))} {sp:List (Int×ByteArray×Tm (D+1+n+1))} {sv pv lv:Value}
def xz(base db:Nat)(self:Int)(n D k:Nat)(nx:Int)(d:Dg)(a:Ac (n+1))(S:Nat->Prop)(w:World)(t:Bool)(w':World):Prop:=
 bq S w w'/\t=(qz self a d).isSome/\∀b,qz self a d=some b->Do base db self n D (k+1) nx b S w w'
theorem lZ{w:World}{base:Nat}{e:TypeId}{g m:Nat}{v:Value}{xs:List Value}(f:w.ownsRow base e g v m xs):∃a c,v=.slice a m c:=by
 rcases f.2 with⟨b,d⟩|⟨i,cap,h,b,_⟩
 ·exact⟨none,0,by rw[b,d]⟩
 ·exact⟨_,cap,b⟩
theorem nP{w:World}{b:Nat}{v0 v1 v2 v3 a c d:Value}{t:TypeId}(e:w.heap[b]?=some (.cells #[v0,v1,v2,v3,a,c,d] t)):(∀v,(w.setCell ⟨b,3,none⟩ v).heap[b]?=some (.cells #[v0,v1,v2,v,a,c,d] t))/\(∀v,(w.setCell ⟨b,4,none⟩ v).heap[b]?=some (.cells #[v0,v1,v2,v3,v,c,d] t))/\(∀v,(w.setCell ⟨b,5,none⟩ v).heap[b]?=some (.cells #[v0,v1,v2,v3,a,v,d] t))/\(∀v,(w.setCell ⟨b,2,none⟩ v).heap[b]?=some (.cells #[v0,v1,v,v3,a,c,d] t))/\∀v,(w.setCell ⟨b,6,none⟩ v).heap[b]?=some (.cells #[v0,v1,v2,v3,a,c,v] t):=by
 refine⟨λv=>?_,λv=>?_,λv=>?_,λv=>?_,λv=>?_⟩<;>
 ·unfold World.setCell;simp[bG,e]
theorem ti{w:World}{b:Nat}{cs:Array Value}{t:TypeId}(a:w.heap[b]?=some (.cells cs t))(j:Nat):w.frozen? ⟨b,j,none⟩=false:=by simp[World.frozen?,a]
theorem dW.frame(c:dW base db self n D k nx d w l bg bc sd sp sv pv lv){w':World}{j h g:Value}(f:bq (kS db bg sv pv lv) w w')(m:∀q,kS db bg j h g q->kS db bg sv pv lv q\/w.heap.size<=q):(∀(i:Nat)(y:Tm (D+1)),l[i]?=some y->In w'.heap.size w' (D+1) y/\bZ (Ke base db bg j h g) (D+1) y)/\(∀a∈sd,bu _ a.2=0/\In w'.heap.size w' _ a.2/\bZ (Ke base db bg j h g) _ a.2)/\(∀a∈sp,bu _ a.2.2=0/\In w'.heap.size w' _ a.2.2/\bZ (Ke base db bg j h g) _ a.2.2)/\Below base w w':=
 ⟨λi y o=>rK f m (c.row i y o).2.1 (c.row i y o).2.2,λa e=>⟨(c.sIn a e).1,rK f m (c.sIn a e).2.1 (c.sIn a e).2.2⟩,λa e=>⟨(c.pIn a e).1,rK f m (c.pIn a e).2.1 (c.pIn a e).2.2⟩,f.below c.own.2.2.2.2 λb p q=>by
  have:=c.high b q
  omega⟩
theorem dW.link(g:dW base db self n D k nx d w l bg bc sd sp sv pv lv)(a:Ac (n+1))(Q:ij (n+1) base w a)(U:bu (n+1) a.2.1.1=0)(P:a.1=3)(Z:1<=self/\self<=99)(ap:k<=1000):Calls Tryz.prog 163 #[.pointer (some ⟨db,0,none⟩),Np a] w λe w'=>∃t,e=.returned (.bool t)/\Hid (xz base db self n D k nx d a (kS db bg sv pv lv) w t w'):=by
 have J:=g.lRow;obtain⟨r,s,rfl⟩:=lZ J;obtain⟨am,an,ao,O⟩:=g.few;have u:qz self a d=(mR d.b self (n+1) a.2.1.1).map λx=>{d with links:=d.links++ [x]}:=by
  simp[qz,P]
 refine(FG a.1 a.2.1.1.1.1 a.2.1.1.1.2.1 a.2.1.1.1.2.2 a.2.1.1.2.1.1 a.2.1.1.2.2.length a.2.1.1.2.1.2 a.2.1.2.1.1 a.2.1.2.1.2.1 a.2.1.2.1.2.2 a.2.1.2.2.1.1 a.2.1.2.2.2.length a.2.1.2.2.1.2 a.2.2.1 a.2.2.2 base db r d.links.length s _ w (mR d.b self (n+1) a.2.1.1).isSome (λx=>∀y,mR d.b self (n+1) a.2.1.1=some y->x=y) (by omega) g.lt g.own.2.2.2.2 ⟨ag g.box 5,ti g.box 5⟩ J g.apart.1.2.2 (g.process a.2.1.1 Q.2.1 U Z)).mono ?_;rintro e w' ⟨rfl,V,v⟩;refine⟨_,rfl,?_⟩;cases hp:mR d.b self (n+1) a.2.1.1 with
 | none=>
  have R:=V (by rw[hp];rfl);refine⟨aI R _,by rw[u,hp];rfl,λN o=>?_⟩;rw[u,hp]at o;cases o
 | some y=>
  obtain⟨x,m,c,z,ab,Y,j,i,rfl⟩:=v (by rw[hp];rfl);obtain rfl:=ab y hp;have T:z.heap[db]?=_:=(j.block db g.lt λf=>g.apart.1.2.2 f).trans g.box;have C:bq (kS db bg sv pv (.slice r d.links.length s)) w (z.setCell ⟨db,5,none⟩ (.slice (some ⟨m,0,none⟩) (d.links.length+1) c)):=bq.trans (j.mono λf _ h=>ai (ai (ai (ai h)))) (bz _ _ _ _) λf _ h=>ah h;have p:∀f,f<w.heap.size->¬(Value.slice r d.links.length s).ownBlock=some f->m≠f:=λf h W e=>by
   rcases i with i|i
   ·rw[e]at i;exact W i
   ·omega
  have H:∀f,kS db bg sv pv (.slice (some ⟨m,0,none⟩) (d.links.length+1) c) f->kS db bg sv pv (.slice r d.links.length s) f\/w.heap.size<=f:=λf h=>by
   rcases h with h|h|h|h|h
   ·exact ah (ah h)
   ·exact ah (ai (ah h))
   ·exact ah (ai (ai (ah h)))
   ·exact ah (ai (ai (ai (ah h))))
   ·have:m=f:=au h;subst this;rcases i with i|i
    ·exact ah (ai (ai (ai (ai i))))
    ·exact ai i
  obtain⟨aj,ak,al,av⟩:=g.frame C H;refine⟨C,by rw[u,hp];rfl,λN o=>?_⟩;rw[u,hp]at o;obtain rfl:=au o;have aq:=C.size;obtain⟨F,ae,af,G,ar⟩:=g.own;have q:=bz z db 5 (.slice (some ⟨m,0,none⟩) (d.links.length+1) c);have aa:∀f,sv.ownBlock=some f->f<w.heap.size:=λf h=>by
   obtain⟨M,B⟩:=dV g.sRow f h;exact(aD.1 B).1
  have X:∀f,pv.ownBlock=some f->f<w.heap.size:=λf h=>by
   obtain⟨M,B⟩:=dV g.pRow f h;exact(aD.1 B).1
  have A:¬(Value.slice r d.links.length s).ownBlock=some bg:=g.apart.2.1.2.2;refine⟨l,bg,bc,sd,sp,sv,pv,_,⟨(nP T).2.2.1 _,⟨F,ae,af,by omega,by omega⟩,g.bnd,g.tells,λK L v=>⟨?_,aj K L v⟩,λad=>?_,?_,?_,?_,g.sIs,g.pIs,ak,al,⟨⟨g.apart.1.1,g.apart.1.2.1,?_⟩,⟨g.apart.2.1.1,g.apart.2.1.2.1,?_⟩,λf=>⟨λh=>⟨((g.apart.2.2 f).1 h).1,?_⟩,λh=>?_⟩⟩,⟨by omega,by omega,by simp;omega,O⟩⟩,H⟩
  ·exact((g.row K L v).1.kee j G A).kee q (by have:=j.size;omega) (λe=>F e.symm)
  ·have S:(z.setCell ⟨db,5,none⟩ (.slice (some ⟨m,0,none⟩) (d.links.length+1) c)).heap[bg]?=w.heap[bg]? :=(q.block bg (by have:=j.size;omega) (λe=>F e.symm)).trans (j.block bg G A);have I:=g.free ad;unfold World.frozen? at I ⊢;rw[S];exact I
  ·exact bf (bf g.sRow j λf h E=>((g.apart.2.2 f).1 h).2 E) q λf h e=>g.apart.1.1 (by rw[h,e])
  ·exact bf (bf g.pRow j λf h E=>(g.apart.2.2 f).2 h E) q λf h e=>g.apart.1.2.1 (by rw[h,e])
  ·have:=bf Y q λf h e=>p db g.lt g.apart.1.2.2 (by
     have:m=f:=au h
     rw[this,e])
   simpa using this
  ·exact λe=>p db g.lt g.apart.1.2.2 (au e)
  ·exact λe=>p bg G A (au e)
  ·exact λe=>p f (aa f h) (((g.apart.2.2 f).1 h).2) (au e)
  ·exact λe=>p f (X f h) ((g.apart.2.2 f).2 h) (au e)
end
section
variable {base db:Nat} {self:Int} {n D k:Nat} {nx:Int} {d:Dg} {w:World} {l:List (Tm (D+1))} {bg bc:Nat} {sd:List (Int×Tm (D+1+n+1))} {sp:List (Int×ByteArray×Tm (D+1+n+1))} {sv pv lv:Value}
theorem Ls{N:Nat}{o:Option (Tm N)}{c:Tm N}(a:nu 0 o=some c):bu N c=0:=by
 unfold nu at a;rw[if_pos rfl]at a;obtain⟨d,_,a⟩:=br.1 a;by_cases b:bu N d=0
 ·rw[if_pos b]at a;rw[<-au a];exact b
 ·rw[if_neg b]at a;cases a
theorem dW.told(e:dW base db self n D k nx d w l bg bc sd sp sv pv lv)(x:Tm (n+1))(h:bu (n+1) x=0):(nu 0 (vl (D+1) l self (n+1) x)).isSome=(rn d.b self (n+1) x).isSome/\∀(a:Tm (D+1+n+1)) t,rn d.b self (n+1) x=some t->ax _ a (D+1+n+1) ((nu 0 (vl (D+1) l self (n+1) x)).getD (vq (D+1+n)))=true->bu _ a=0/\aJ _ a=true/\cn _ a=t:=by
 have m:=JX e.bnd e.tells self x h;refine⟨by rw[<-m,Option.isSome_map],λa t f c=>?_⟩;have p:=Nh (Jp e.bnd e.tells) h f;rw[<-m]at f;obtain⟨q,o,rfl⟩:=cd.1 f;rw[o]at c;have c:ax _ a _ q=true:=c;have i:=(bM c).trans (Ls o);have j:=gV c;refine⟨i,?_,j⟩;have g:=p.2.1;rw[<-j,lK i]at g;exact g
theorem dW.send(h:dW base db self n D k nx d w l bg bc sd sp sv pv lv)(a:Ac (n+1))(P:ij (n+1) base w a)(ae:bu (n+1) a.2.1.1=0)(Q:bu (n+1) a.2.1.2=0)(aa:a.1=1)(V:1<=self/\self<=99)(aF:k<=1000):Calls Tryz.prog 161 #[.pointer (some ⟨db,0,none⟩),Np a] w λe w'=>∃t,e=.returned (.bool t)/\Hid (xz base db self n D k nx d a (kS db bg sv pv lv) w t w'):=by
 have U:=h.sRow;obtain⟨y,z,rfl⟩:=lZ U;obtain⟨aB,aC,aE,Z⟩:=h.few;have s:qz self a d=(mR d.b self (n+1) a.2.1.1).bind λx=>(rn d.b self (n+1) a.2.1.2).map λt=>{d with sends:=d.sends++ [(x,t)]}:=by
  simp[qz,aa]
 obtain⟨ak,al⟩:=h.told (self:=self) a.2.1.2 Q;refine(Gr (D+1+n) a.1 a.2.1.1.1.1 a.2.1.1.1.2.1 a.2.1.1.1.2.2 a.2.1.1.2.1.1 a.2.1.1.2.2.length a.2.1.1.2.1.2 a.2.1.2.1.1 a.2.1.2.1.2.1 a.2.1.2.1.2.2 a.2.1.2.2.1.1 a.2.1.2.2.2.length a.2.1.2.2.1.2 a.2.2.1 a.2.2.2 base db y sd.length z _ w (mR d.b self (n+1) a.2.1.1).isSome (λx=>∀A,mR d.b self (n+1) a.2.1.1=some A->x=A) (nu 0 (vl (D+1) l self (n+1) a.2.1.2)) (by omega) h.lt h.own.2.2.2.2 ⟨ag h.box 3,ti h.box 3⟩ U h.apart.1.1 (h.process a.2.1.1 P.2.1 ae V) (h.value a.2.1.2 P.2.2.1 Q V)).mono ?_;rintro e w' ⟨rfl,K,i⟩;refine⟨_,rfl,?_⟩;rw[ak]at K i ⊢;cases hp:mR d.b self (n+1) a.2.1.1 with
 | none=>
  have E:=K (by rw[hp];rfl);refine⟨aI E _,by rw[s,hp];rfl,λN p=>?_⟩;rw[s,hp]at p;cases p
 | some A=>
  cases g:rn d.b self (n+1) a.2.1.2 with
  | none=>
   have E:=K (by rw[hp,g];rfl);refine⟨aI E _,by rw[s,hp,g];rfl,λN p=>?_⟩;rw[s,hp,g]at p;cases p
  | some t=>
   obtain⟨x,r,j,c,B,am,aq,ao,W,aj,q,m,rfl⟩:=i (by rw[hp,g];rfl);obtain rfl:=am A hp;obtain⟨an,_,ar⟩:=al r t g aq;have ad:B.heap[db]?=_:=(q.block db h.lt λf=>h.apart.1.1 f).trans h.box;have I:bq (kS db bg (.slice y sd.length z) pv lv) w (B.setCell ⟨db,3,none⟩ (.slice (some ⟨j,0,none⟩) (sd.length+1) c)):=bq.trans (q.mono λf _ g=>ai (ai (ah g))) (bz _ _ _ _) λf _ g=>ah g;have v:∀f,f<w.heap.size->¬(Value.slice y sd.length z).ownBlock=some f->j≠f:=λf g af e=>by
    rcases m with m|m
    ·rw[e]at m;exact af m
    ·omega
   have O:∀f,kS db bg (.slice (some ⟨j,0,none⟩) (sd.length+1) c) pv lv f->kS db bg (.slice y sd.length z) pv lv f\/w.heap.size<=f:=λf g=>by
    rcases g with g|g|g|g|g
    ·exact ah (ah g)
    ·exact ah (ai (ah g))
    ·have:j=f:=au g;subst this;rcases m with m|m
     ·exact ah (ai (ai (ah m)))
     ·exact ai m
    ·exact ah (ai (ai (ai (ah g))))
    ·exact ah (ai (ai (ai (ai g))))
   obtain⟨ay,az,aA,aK⟩:=h.frame I O;refine⟨I,by rw[s,hp,g];rfl,λN p=>?_⟩;rw[s,hp,g]at p;obtain rfl:=au p;have aG:=I.size;have aH:=q.size;obtain⟨L,aw,ax,M,aJ⟩:=h.own;have u:=bz B db 3 (.slice (some ⟨j,0,none⟩) (sd.length+1) c);have S:∀f,lv.ownBlock=some f->f<w.heap.size:=λf g=>by
    obtain⟨Y,G⟩:=dV h.lRow f g;exact(aD.1 G).1
   have T:∀f,pv.ownBlock=some f->f<w.heap.size:=λf g=>by
    obtain⟨Y,G⟩:=dV h.pRow f g;exact(aD.1 G).1
   have F:¬(Value.slice y sd.length z).ownBlock=some bg:=h.apart.2.1.1;have ap:bZ (Ke base db bg (.slice (some ⟨j,0,none⟩) (sd.length+1) c) pv lv) _ r:=W.mono λf g=>by
    have:=h.lt;refine⟨by omega,λo=>?_⟩;rcases o with o|o|o|o|o
    ·omega
    ·omega
    ·exact g.2 (au o).symm
    ·have:=T f o;omega
    ·have:=S f o;omega
   refine⟨l,bg,bc,sd++ [(x,r)],sp,_,pv,lv,⟨(nP ad).1 _,⟨L,aw,ax,by omega,by omega⟩,h.bnd,h.tells,λX C i=>⟨?_,ay X C i⟩,λav=>?_,?_,?_,?_,?_,h.pIs,λC i=>?_,aA,⟨⟨?_,h.apart.1.2.1,h.apart.1.2.2⟩,⟨?_,h.apart.2.1.2.1,h.apart.2.1.2.2⟩,λf=>⟨λg=>⟨λe=>?_,λe=>?_⟩,(h.apart.2.2 f).2⟩⟩,⟨by simp;omega,by omega,by show d.links.length<=k+1;omega,Z⟩⟩,O⟩
   ·exact((h.row X C i).1.kee q M F).kee u (by omega) (λe=>L e.symm)
   ·have ab:(B.setCell ⟨db,3,none⟩ (.slice (some ⟨j,0,none⟩) (sd.length+1) c)).heap[bg]?=w.heap[bg]? :=(u.block bg (by omega) (λe=>L e.symm)).trans (q.block bg M F);have R:=h.free av;unfold World.frozen? at R ⊢;rw[ab];exact R
   ·have:=bf aj u λf g e=>v db h.lt h.apart.1.1 (by
      have:j=f:=au g
      rw[this,e])
    simpa using this
   ·exact bf (bf h.pRow q λf g J=>((h.apart.2.2 f).1 J).1 g) u λf g e=>h.apart.1.2.1 (by rw[g,e])
   ·exact bf (bf h.lRow q λf g J=>((h.apart.2.2 f).1 J).2 g) u λf g e=>h.apart.1.2.2 (by rw[g,e])
   ·simp[h.sIs,ar]
   ·rcases cR.1 i with i|i
    ·exact az C i
    ·obtain rfl:=de.1 i;refine⟨an,?_,ap⟩;refine ao.kee u (W.mono λf g e=>?_);have:=h.lt;omega
   ·exact λe=>v db h.lt h.apart.1.1 (au e)
   ·exact λe=>v bg M F (au e)
   ·have H:j=f:=au g;exact v f (T f e) (λr=>((h.apart.2.2 f).1 r).1 e) H
   ·have H:j=f:=au g;exact v f (S f e) (λr=>((h.apart.2.2 f).1 r).2 e) H
end
end Go.Proofs.YtckamaoibonjcaaGreat
