/- What is proved here: plain facts and contracts that the claimed theorem stands on. No condition but those that each names. -/
import Derived.Test.YtckamaoibonjcaaGreatG05
import Derived.Laws.MakeOwn
namespace Go.Proofs.YtckamaoibonjcaaGreat
open Go.RowKit
set_option maxHeartbeats 1000000
def AR(n:Nat)(y:Tm n):Bool:=bu n y==0 && (bO ⟨n,y⟩==6 || jM n y)
def fY(n:Nat)(q:List (Tm n)):Bool:=decide (q.length=4) && q.all (AR n)
def fp(B:Nat)(w:World)(n:Nat)(q:List (Tm n))(a:Option Addr):Prop:=
 q=[]\/∃b o,a=some ⟨b,o,none⟩/\b<B/\∀(d:Nat)(c:Tm n),q[d]?=some c->dE w b (o+d*4) n c/\In B w n c
theorem fp.below{B:Nat}{w w':World}(d:Below B w w'){n:Nat}{q:List (Tm n)}{a:Option Addr}(k:fp B w n q a):fp B w' n q a:=by
 rcases k with c|⟨b,o,i,e,c⟩
 ·exact ah c
 ·exact ai ⟨b,o,i,e,λg h f=>⟨(c g h f).1.below d e,(c g h f).2.below d⟩⟩
theorem qq{a:Type}(f:a->Bool)(q:List a)(k:Nat)(y:a)(c:q[k]?=some y):(q.drop k).all f=(f y && (q.drop (k+1)).all f):=by
 obtain⟨d,b⟩:=aR.1 c;rw[eV d,b];rfl
theorem Kt(a:Option Addr)(len pc:Nat)(w:World)(_hl:len<=9223372036854775807)(b:((len:Int) !=4)=true):am 158 #[ae a len pc] w λe w'=>e=.returned (.bool false)/\w'=w:=by
 go_enter Tryz.func158,Tryz.ntmps158;go_wp2_with fail
 go_ret
 exact⟨rfl,rfl⟩
theorem EP(n:Nat)(q:List (Tm n))(z po pc:Nat)(B:Nat)(w:World)(L:Hid (q.length=4))(V:z<B)(K:∀(i:Nat)(y:Tm n),q[i]?=some y->dE w z (po+i*4) n y/\In B w n y)(H:∀y∈q,(aw n y).length<=2097152)(C:B<=w.heap.size):am 158 #[ae (some ⟨z,po,none⟩) 4 pc] w λe w'=>e=.returned (.bool (q.all (AR n)))/\aj w w':=by
 go_enter Tryz.func158,Tryz.ntmps158;go_wp2_with fail;go_loopw [10] (λi wr=>∃k:Nat,k<=4/\i=ab k/\aj w wr/\Hid ((q.drop k).all (AR n)=q.all (AR n))) (λi _=>4-(intOf i).toNat)
 case atStart=>exact⟨0,by omega,rfl,ap _ _,rfl⟩
 case round=>
  obtain⟨k,ad,rfl,c,l⟩:=hrel;by_cases U:k<4
  ·obtain⟨a,v⟩:∃a,q[k]?=some a:=⟨q[k]'(by rw[L.out];exact U),aH _⟩;have s:=ao (qq (AR n) q k a v);obtain⟨x,m⟩:=K k a v;have I:=H a (aG v);replace x:=x.below (c.mono C) V;replace m:=m.below (c.mono C);clear K v H;cases n with
   | zero=>exact x.elim
   | succ n=>
   obtain⟨X,Y,Z,aa⟩:=x;have t:B<=wr.heap.size:=ay C c.size
   have F:Hid (∀b,aj wr b->am 51 #[.agg #[ab a.1.1,ab a.1.2.1,af a.1.2.2,ae a.2.1.1 a.2.2.length a.2.1.2]] b λe w'=>e=.returned (ab (bu (n+1) a))/\aj b w'):=
    λb j=>dD (n+1) a B b (m.below (j.mono t)) (ay t j.size) I
   have R:Hid (∀b,aj wr b->am 52 #[.agg #[ab a.1.1,ab a.1.2.1,af a.1.2.2,ae a.2.1.1 a.2.2.length a.2.1.2]] b λe w'=>e=.returned (.bool (aJ (n+1) a))/\aj b w'):=
    λb j=>iu (n+1) a B b (m.below (j.mono t)) (ay t j.size)
   have r:Hid (AR (n+1) a=(bu (n+1) a==0 && (a.1.1==6 || aJ (n+1) a))):=by unfold Hid AR;rw[eY];rfl
   clear m I;generalize a.2.2.length=au at*;generalize aJ (n+1) a=cl at*;generalize bu (n+1) a=h at*;generalize AR (n+1) a=ok at*;have ag:(0:Int)<=(k:Int):=by omega
   have ah:(k:Int)<(4:Int):=by omega
   have ai:z<wr.heap.size:=by omega
   have E:Hid (∀o,aj wr (wr.alloc o)):=λo=>(ap _ _).alloc (ak _) _;go_wp2_with fail;refine(F.out _ (E.out _)).mono ?_;rintro e b ⟨rfl,u⟩;obtain⟨⟨M,N,O,P⟩,_⟩:=DT u;have A:Hid (aj wr b):=(E.out _).trans (u.mono (by simp));have S:Hid (wr.heap.size<b.heap.size):=by have:=u.size;simp at this;unfold Hid;omega
   clear u X Y Z aa F;by_cases f:h=0
   ·have T:(h !=0)=false:=by simp[f]
    have g:Hid (h=0):=f;clear f;go_wp2_with fail;refine(iZ _ _ _ _ _ _ _).mono ?_;rintro e Q ⟨rfl,D⟩;obtain⟨al,an,aq,ar⟩:=ny S.out D ⟨M,N,O,P⟩;have p:Hid (aj wr Q):=A.out.trans (D.mono A.out.size);clear D M N O P;cases G:a.1.1==6
    ·simp only[Bool.not_false];go_wp2_with fail;refine(R.out _ p.out).mono ?_;rintro e W ⟨rfl,J⟩;have d:aj w W:=c.trans ((p.out.trans (J.mono p.out.size)).mono c.size);clear J;cases cl with
     | true=>
      go_wp2_with fail;go_roundw
      case rel=>exact⟨k+1,by omega,by go_num,d,by rw[<-l.out,s.out,r.out,g.out];simp[Hid]⟩
      case measure=>simp[intOf];omega
     | false=>
      go_wp2_with fail
      go_ret
      exact⟨fB (by rw[<-l.out,s.out,r.out,g.out,G];simp),d⟩
    ·simp only[Bool.not_true];have d:aj w Q:=c.trans (p.out.mono c.size);go_wp2_with fail;go_roundw
     case rel=>exact⟨k+1,by omega,by go_num,d,by rw[<-l.out,s.out,r.out,g.out,G];simp[Hid]⟩
     case measure=>simp[intOf];omega
   ·have T:(h !=0)=true:=by simpa using f
    have g:Hid ((h==0)=false):=by simpa [Hid]using f
    have d:aj w b:=c.trans (A.out.mono c.size);clear f;go_wp2_with fail
    go_ret
    exact⟨fB (by rw[<-l.out,s.out,r.out,g.out];simp),d⟩
  ·go_wp2_with fail
   go_ret
   refine⟨fB ?_,c⟩;rw[<-l.out,jj (by rw[L.out];omega)];rfl
theorem zy(n:Nat)(q:List (Tm n))(a:Option Addr)(pc B:Nat)(w:World)(d:fp B w n q a)(i:q.length<=9223372036854775807)(g:∀y∈q,(aw n y).length<=2097152)(f:B<=w.heap.size):am 158 #[ae a q.length pc] w λe w'=>e=.returned (.bool (fY n q))/\aj w w':=by
 unfold fY;by_cases c:q.length=4
 ·rcases d with d|⟨b,o,rfl,h,j⟩
  ·rw[d]at c;simp at c
  ·have k:=EP n q b o pc B w c h j g f;rw[c];simpa using k
 ·refine(Kt a q.length pc w i (by simp;omega)).mono ?_;rintro e w' ⟨rfl,rfl⟩;exact⟨by simp[c],ap _ _⟩
def aO:(N:Nat)->(n:Nat)->Tm n->Tm N
 | 0,_,_=>()
 | _+1,0,_=>((0,0,.empty),(none,0),[])
 | N+1,n+1,x=>(x.1,x.2.1,x.2.2.map λy=>aO N n y)
theorem La(N n:Nat)(x:Tm (n+1)):gd (N+1) (aO (N+1) (n+1) x)=gd (n+1) x:=by simp[gd,bA,aO]
theorem wj(N n:Nat)(g:n<=N)(x:Tm n)(w:World)(b o:Nat)(k:dE w b o n x):dE w b o N (aO N n x):=by
 cases n with
 | zero=>exact k.elim
 | succ n=>
  obtain⟨N,rfl⟩:∃a,N=a+1:=⟨N-1,by omega⟩;obtain⟨c,d,e,f⟩:=k;exact⟨c,d,e,by simpa [aO]using f⟩
theorem oo:(N n:Nat)->n<=N->(x:Tm n)->(B:Nat)->(w:World)->In B w n x->In B w N (aO N n x)
 | _,0,_,_,_,_,k=>k.elim
 | 0,n+1,h,_,_,_,_=>by omega
 | N+1,n+1,h,x,B,w,k=>by
  obtain⟨j,a⟩:=k;refine⟨by simpa [aO]using j,?_⟩;rcases a with a|⟨b,o,e,g,a⟩
  ·exact ah (by simp[aO,a])
  ·refine ai ⟨b,o,e,g,λi y d=>?_⟩;simp only[aO,dr]at d;obtain⟨c,f,rfl⟩:=cd.1 d;exact⟨wj N n (by omega) c w b _ (a i c f).1,oo N n (by omega) c B w (a i c f).2⟩
theorem mP:(N n:Nat)->n<=N->(x:Tm (n+1))->aw (N+1) (aO (N+1) (n+1) x)=aw (n+1) x
 | N,0,_,x=>by
  have:∀l:List (Tm 0),(l.map λy=>aO N 0 y).flatMap (λy=>aw N y)=l.flatMap λy=>aw 0 y:=by
   intro l
   induction l with
   | nil=>rfl
   | cons a l ih=>
    simp only[aK,bB,ih];congr 1;cases N with
    | zero=>rfl
    | succ N=>simp[aO,aw]
  simp only[aw,aO,fI,this]
 | 0,n+1,h,_=>by omega
 | N+1,n+1,h,x=>by
  have:∀l:List (Tm (n+1)),(l.map λy=>aO (N+1) (n+1) y).flatMap (λy=>aw (N+1) y)=l.flatMap λy=>aw (n+1) y:=by
   intro l
   induction l with
   | nil=>rfl
   | cons a l ih=>
    simp only[aK,bB,ih];rw[mP N n (by omega) a]
  have b:aw (N+2) (aO (N+2) (n+2) x)=(x.1,(x.2.1.1,(x.2.2.map λy=>aO (N+1) (n+1) y).length,x.2.1.2))::(x.2.2.map λy=>aO (N+1) (n+1) y).flatMap λy=>aw (N+1) y:=rfl;rw[b,this];simp[aw]
def mC(b:List An):Nat:=b.foldr (λa m=>max a.1 m) 0
theorem yV(b:List An):∀a∈b,a.1<=mC b:=by
 induction b with
 | nil=>intro a d;cases d
 | cons c b ih=>
  intro a d;simp only[mC,List.foldr_cons];rcases ch.1 d with rfl|d
  ·omega
  ·have:=ih a d;unfold mC at this;omega
def BE(b:List An):List (Tm (mC b)):=b.map λa=>aO (mC b) a.1 a.2
theorem JS(b:List An)(i:Nat)(y:Tm (mC b))(c:(BE b)[i]?=some y):∃a,b[i]?=some a/\a.1<=mC b/\y=aO (mC b) a.1 a.2:=by
 simp only[BE,dr]at c;obtain⟨a,d,rfl⟩:=cd.1 c;exact⟨a,d,yV b a (aG d),rfl⟩
theorem JT{base g c B:Nat}{b:List An}{w:World}(e:mD base g c b w)(k:∀y∈b,EK B w y)(j:B<=w.heap.size):fp w.heap.size w (mC b) (BE b) (some ⟨g,0,none⟩):=by
 refine ai ⟨g,0,rfl,e.lt.2,λa y m=>?_⟩;obtain⟨d,f,i,rfl⟩:=JS b a y m;have h:=k d (aG f);refine⟨?_,(oo _ _ i _ _ _ h).mono j⟩;obtain⟨n,o⟩:=d;have l:=e.cells a _ f;cases n with
 | zero=>exact h.elim
 | succ n=>
  rw[cT];exact wj _ _ i o w g (a*4) l
theorem GV{b:List An}(f:∀y∈b,az y/\y.1≠0):∀y∈BE b,az ⟨mC b,y⟩:=by
 intro y k;obtain⟨m,h⟩:=cO k;obtain⟨e,g,i,rfl⟩:=JS b m y h;have j:=f e (aG g);obtain⟨n,o⟩:=e;cases n with
 | zero=>exact(j.2 rfl).elim
 | succ n=>
  intro p c;clear h k g f;generalize mC b=d at*;obtain⟨a,rfl⟩:∃a,d=a+1:=⟨d-1,by simp only at i;omega⟩;have l:=mP a n (by simp only at i;omega) o;simp only at c;rw[l]at c;exact j.1 p c
theorem iF{c d:Type}(f:c->d->Bool):(p:List c)->(q:List d)->(x:c)->(y:d)->aC f p q=true->f x y=true->aC f (p++ [x]) (q++ [y])=true
 | [],[],x,y,_,h=>by simp[aC,h]
 | [],_::_,_,_,h,_=>by simp[aC]at h
 | _::_,[],_,_,h,_=>by simp[aC]at h
 | a::p,b::q,x,y,h,k=>by
  simp only[aC,aA,fG]at h ⊢;exact⟨h.1,iF f p q x y h.2 k⟩
theorem cD{c d:Type}(f:c->d->Bool):(p:List c)->(q:List d)->aC f p q=true->p.length=q.length
 | [],[],_=>rfl
 | [],_::_,h=>by simp[aC]at h
 | _::_,[],h=>by simp[aC]at h
 | a::p,b::q,h=>by
  simp only[aC,aA]at h;simp[cD f p q h.2]
def zA:An:=⟨1,((0,0,.empty),(none,0),[])⟩
theorem FL(n:Nat):(madeCells #[ab 0,ab 0,af .empty,ae none 0 0] (n*4)).toList=fP (List.replicate n zA):=by
 apply List.ext_getElem?;intro b;by_cases e:b<n*4
 ·obtain⟨k,a,f,rfl⟩:∃k a,a<4/\b=k*4+a:=⟨b / 4,b % 4,Nat.mod_lt _ (by decide),by omega⟩;have g:k<n:=by omega
  have c:(fP (List.replicate n zA))[k*4+a]?=(uF (sA zA))[a]? :=iC _ k (sA zA) (by simp[g]) a f;rw[c];have d:(madeCells #[ab 0,ab 0,af .empty,ae none 0 0] (n*4))[k*4+a]?=some ((#[ab 0,ab 0,af .empty,ae none 0 0]:Array Value)[(k*4+a) % 4]!):=by
   simp[madeCells,e]
  rw[mg,d,show (k*4+a) % 4=a by omega];have:a=0\/a=1\/a=2\/a=3:=by omega
  rcases this with rfl|rfl|rfl|rfl<;>rfl
 ·rw[ek (by simp[size_madeCells];omega),ek (by rw[kB];simp;omega)]
def tB(n:Nat)(p:List (Tm n))(len g k:Nat)(l:List (Tm n))(wr:World):Prop:=
 l.length=k/\mD g g len (l.map (λe=>(⟨n,e⟩:An))++List.replicate (len-k) zA) wr/\(∀a∈l,In wr.heap.size wr n a/\bZ (λd=>g<d) n a)/\aC (λc b=>ax n c n b) l (p.take k)=true
theorem tB.step{n:Nat}{p:List (Tm n)}{len g k:Nat}{l:List (Tm n)}{wr w1:World}(j:tB n p len g k l wr)(w:k<len)(x:Tm n)(u:p[k]?=some x)(c:aj wr w1)(y:Tm n)(v:In w1.heap.size w1 n y)(h:bZ (λq=>g<q) n y)(s:ax n y n x=true):tB n p len g (k+1) (l++ [y]) (jc w1 g (k*4) (gd n y)):=by
 obtain⟨e,m,b,o⟩:=j;have f:=(m.below c).put k ⟨n,y⟩ (by simp;omega);have i:(l.map (λx=>(⟨n,x⟩:An))++List.replicate (len-k) zA).set k ⟨n,y⟩=(l++ [y]).map (λx=>(⟨n,x⟩:An))++List.replicate (len-(k+1)) zA:=by
  rw[ie _ _ (by simp;omega)];have:len-k=(len-(k+1))+1:=by omega
  rw[this,List.replicate_succ];simp[e]
 rw[i]at f;refine⟨by simp[e],f,?_,?_⟩
 ·intro d a;have t:(jc w1 g (k*4) (gd n y)).heap.size=w1.heap.size:=bm _ _ _ _;rw[t];rcases cR.1 a with a|a
  ·exact⟨In.off (λq r=>aV (by omega) _ _ _ _) (b d a).2 (((b d a).1.below c).mono c.size),(b d a).2⟩
  ·simp only[de]at a;subst a;exact⟨In.off (λq r=>aV (by omega) _ _ _ _) h v,h⟩
 ·rw[dz,u];exact iF _ _ _ _ _ o s
def gD(n:Nat)(p:List (Tm n))(w w':World)(a:Option Addr)(c:Nat)(l:List (Tm n)):Prop:=
 aj w w'/\l.length=p.length/\l.length<=c/\c<=maxLen/\aC (λa b=>ax n a n b) l p=true/\
 (l=[]\/∃b o,a=some ⟨b,o,none⟩/\(w.heap.size<=b/\o=0/\(∀g,w'.frozen? ⟨b,g,none⟩=false)/\∀d∈l,bZ (λe=>e≠b) n d)/\b<w'.heap.size/\∀(f:Nat)(d:Tm n),l[f]?=some d->dE w' b (o+f*4) n d/\In w'.heap.size w' n d/\bZ (λe=>w.heap.size<=e) n d)
theorem tB.done{n:Nat}{p:List (Tm n)}{len k:Nat}{l:List (Tm n)}{w wr:World}(f:tB n p len w.heap.size k l wr)(u:p.length=len)(j:k=len)(g:aj w wr)(m:len<=maxLen):gD n p w wr (some ⟨w.heap.size,0,none⟩) len l:=by
 obtain⟨t,c,d,e⟩:=f;subst j;rw[bC (by omega)]at e;rw[js,mw,eh]at c;refine⟨g,by omega,by omega,m,e,ai ⟨w.heap.size,0,rfl,⟨ak _,rfl,λr=>c.free r,λb a=>(d b a).2.mono λs o=>by omega⟩,c.lt.2,λq b a=>⟨?_,(d b (aG a)).1,(d b (aG a)).2.mono λs o=>by omega⟩⟩⟩;have h:=c.cells q ⟨n,b⟩ (by simp[a]);have i:=(d b (aG a)).1;cases n with
 | zero=>exact i.elim
 | succ n=>
  rw[cT];exact h
def Oa(n:Nat):Prop:=∀(x:Tm n)(B:Nat)(w:World),In B w n x->B<=w.heap.size->az ⟨n,x⟩->
 am 54 #[dj n x] w λe w'=>∃y:Tm n,e=.returned (dj n y)/\Hid (aj w w'/\In w'.heap.size w' n y/\bZ (λq=>w.heap.size<=q) n y/\ax n y n x=true)
theorem tM{s t:ByteArray}(b:(s.toList==t.toList)=true):s=t:=by
 have a:s.toList=t.toList:=by simpa using b
 rw[b8,b8]at a;cases s;cases t;simp only at a;rw[mh.1 a]
theorem bD{n m:Nat}{x:Tm (n+1)}{y:Tm (m+1)}(c:ax (n+1) x (m+1) y=true):x.1=y.1/\aC (λa b=>ax n a m b) x.2.2 y.2.2=true:=by
 simp only[ax,aA,cm]at c;obtain⟨⟨⟨d,e⟩,f⟩,g⟩:=c;refine⟨?_,g⟩;have h:=tM (s:=x.1.2.2) (t:=y.1.2.2) (by simpa using f);exact ig d (ig e h)
theorem da{n m:Nat}{x:Tm (n+1)}{y:Tm (m+1)}(c:x.1=y.1)(k:aC (λa b=>ax n a m b) x.2.2 y.2.2=true):ax (n+1) x (m+1) y=true:=by
 simp only[ax,c,k];simp
theorem pT{c d:Type}(f:c->d->Bool)(g:d->c->Bool):(p:List c)->(q:List d)->(∀a∈p,∀b,f a b=true->g b a=true)->aC f p q=true->aC g q p=true
 | [],[],_,_=>rfl
 | [],_::_,_,h=>by simp[aC]at h
 | _::_,[],_,h=>by simp[aC]at h
 | a::p,b::q,hf,h=>by
  simp only[aC,aA]at h ⊢;exact⟨hf a (by simp) b h.1,pT f g p q (λe i=>hf e (bI _ i)) h.2⟩
theorem dK:(n:Nat)->(x:Tm n)->(m:Nat)->(y:Tm m)->ax n x m y=true->ax m y n x=true
 | 0,_,_,_,h=>by simp[ax]at h
 | _+1,_,0,_,h=>by simp[ax]at h
 | n+1,x,m+1,y,h=>by
  obtain⟨c,d⟩:=bD h;exact da c.symm (pT _ _ _ _ (λa _ b e=>dK n a m b e) d)
theorem nN{d e i:Type}(f:d->e->Bool)(g:e->i->Bool)(k:d->i->Bool):(p:List d)->(q:List e)->(r:List i)->(∀a∈p,∀b c,f a b=true->g b c=true->k a c=true)->aC f p q=true->aC g q r=true->aC k p r=true
 | [],[],[],_,_,_=>rfl
 | [],[],_::_,_,_,h=>by simp[aC]at h
 | [],_::_,_,_,h,_=>by simp[aC]at h
 | _::_,[],_,_,h,_=>by simp[aC]at h
 | _::_,_::_,[],_,_,h=>by simp[aC]at h
 | a::p,b::q,c::r,hf,h1,h2=>by
  simp only[aC,aA]at h1 h2 ⊢;exact⟨hf a (by simp) b c h1.1 h2.1,nN f g k p q r (λj l=>hf j (bI _ l)) h1.2 h2.2⟩
theorem bQ:(n:Nat)->(x:Tm n)->(m:Nat)->(y:Tm m)->(l:Nat)->(d:Tm l)->ax n x m y=true->ax m y l d=true->ax n x l d=true
 | 0,_,_,_,_,_,h,_=>by simp[ax]at h
 | _+1,_,0,_,_,_,h,_=>by simp[ax]at h
 | _+1,_,_+1,_,0,_,_,h=>by simp[ax]at h
 | n+1,x,m+1,y,l+1,d,h,k=>by
  obtain⟨e,f⟩:=bD h;obtain⟨j,o⟩:=bD k;exact da (e.trans j) (nN _ _ _ _ _ _ (λa _ b c g i=>bQ n a m b l c g i) f o)
theorem iE{b:Type}(f:b->b->Bool):(p:List b)->(∀a∈p,f a a=true)->aC f p p=true
 | [],_=>rfl
 | a::p,h=>by
  simp only[aC,aA];exact⟨h a (by simp),iE f p λc d=>h c (bI _ d)⟩
theorem fe:(n:Nat)->(x:Tm n)->az ⟨n,x⟩->ax n x n x=true
 | 0,_,h=>(dd h).elim
 | n+1,x,h=>da rfl (iE _ _ λy a=>fe n y (aT n x y h a))
theorem aL{n:Nat}{x:Tm n}:az ⟨n,x⟩ ↔ bV n x=true:=by
 rw[kX,b9];exact Iff.rfl
theorem KS{x:Int×Int×ByteArray}{a b:Option Addr}{l c d:Nat}:cv (x,(a,l,c))=cv (x,(b,l,d)):=rfl
theorem rV{c d:Type}(f:c->d->Bool)(g:c->Bool)(k:d->Bool):(p:List c)->(q:List d)->(∀a∈p,∀b,f a b=true->g a=k b)->aC f p q=true->p.all g=q.all k
 | [],[],_,_=>rfl
 | [],_::_,_,h=>by simp[aC]at h
 | _::_,[],_,h=>by simp[aC]at h
 | a::p,b::q,hf,h=>by
  simp only[aC,aA]at h;simp only[iO,hf a (by simp) b h.1,rV f g k p q (λe i=>hf e (bI _ i)) h.2]
theorem jZ{c d e:Type}(f:c->d->Bool)(g:c->e)(k:d->e):(p:List c)->(q:List d)->(∀a∈p,∀b,f a b=true->g a=k b)->aC f p q=true->p.map g=q.map k
 | [],[],_,_=>rfl
 | [],_::_,_,h=>by simp[aC]at h
 | _::_,[],_,h=>by simp[aC]at h
 | a::p,b::q,hf,h=>by
  simp only[aC,aA]at h;simp only[aK,hf a (by simp) b h.1,jZ f g k p q (λi j=>hf i (bI _ j)) h.2]
theorem uc{b:Type}(g:b->Int):(p:List b)->(i:Int)->p.foldl (λm y=>max m (g y)) i=(p.map g).foldl max i
 | [],_=>rfl
 | a::p,i=>by simp only[fH,aK];exact uc g p _
theorem cw:(n:Nat)->(x:Tm n)->(m:Nat)->(y:Tm m)->ax n x m y=true->aJ n x=aJ m y
 | 0,_,_,_,h=>by simp[ax]at h
 | _+1,_,0,_,h=>by simp[ax]at h
 | n+1,x,m+1,y,h=>by
  obtain⟨c,d⟩:=bD h;simp only[aJ,c];rw[rV _ _ _ _ _ (λa _ b e=>cw n a m b e) d]
theorem jf:(n:Nat)->(x:Tm n)->(m:Nat)->(y:Tm m)->ax n x m y=true->bV n x=bV m y
 | 0,_,_,_,h=>by simp[ax]at h
 | _+1,_,0,_,h=>by simp[ax]at h
 | n+1,x,m+1,y,h=>by
  obtain⟨a,c⟩:=bD h;have e:cv (bA n x)=cv (bA m y):=by
   have g:=cD _ _ _ c;unfold bA;rw[a,g];exact KS
  simp only[bV,e,a];rw[rV _ _ _ _ _ (λd _ b f=>jf n d m b f) c]
theorem lh:(n:Nat)->(x:Tm n)->(m:Nat)->(y:Tm m)->ax n x m y=true->sz n x=sz m y
 | 0,_,_,_,h=>by simp[ax]at h
 | _+1,_,0,_,h=>by simp[ax]at h
 | n+1,x,m+1,y,h=>by
  obtain⟨c,d⟩:=bD h;simp only[sz,c];rw[jZ _ (λy=>1+sz n y) (λy=>1+sz m y) _ _ (λa _ b e=>by rw[lh n a m b e]) d]
theorem Bf:(n:Nat)->(x:Tm n)->(m:Nat)->(y:Tm m)->ax n x m y=true->fh n x=fh m y
 | 0,_,_,_,h=>by simp[ax]at h
 | _+1,_,0,_,h=>by simp[ax]at h
 | n+1,x,m+1,y,h=>by
  obtain⟨c,d⟩:=bD h;simp only[fh,c];rw[uc (λy=>fh n y),uc (λy=>fh m y),jZ _ (λy=>fh n y) (λy=>fh m y) _ _ (λa _ b e=>Bf n a m b e) d]
theorem bM{n m:Nat}{x:Tm n}{y:Tm m}(a:ax n x m y=true):bu n x=bu m y:=by
 rw[<-gf,<-gf];unfold vJ;rw[jf n x m y a,lh n x m y a,Bf n x m y a]
theorem j0{n m:Nat}{x:Tm n}{y:Tm m}(a:ax n x m y=true):bO ⟨n,x⟩=bO ⟨m,y⟩:=by
 cases n with
 | zero=>simp[ax]at a
 | succ n=>
  cases m with
  | zero=>simp[ax]at a
  | succ m=>
   have:=(bD a).1;simp only[bO,this]
theorem je{c d:Type}(f:c->d->Bool):(p:List c)->(q:List d)->aC f p q=true->∀(i:Nat)(a:c)(b:d),p[i]?=some a->q[i]?=some b->f a b=true
 | [],_,_,i,a,b,ha,_=>by simp at ha
 | _::_,[],h,_,_,_,_,_=>by simp[aC]at h
 | a::p,b::q,h,0,a',b',ha,hb=>by
  simp only[aC,aA]at h;simp at ha hb;subst ha hb;exact h.1
 | a::p,b::q,h,i+1,a',b',ha,hb=>by
  simp only[aC,aA]at h;exact je f p q h.2 i a' b' (by simpa using ha) (by simpa using hb)
theorem iD{b c:Type}(f:c->b->Bool)(g:b->c):(p:List b)->(∀a∈p,f (g a) a=true)->aC f (p.map g) p=true
 | [],_=>rfl
 | a::p,h=>by
  simp only[aK,aC,aA];exact⟨h a (by simp),iD f g p λd e=>h d (bI _ e)⟩
theorem eZ:(N n:Nat)->n<=N->(x:Tm n)->az ⟨n,x⟩->ax N (aO N n x) n x=true
 | _,0,_,_,h=>(dd h).elim
 | 0,n+1,h,_,_=>by omega
 | N+1,n+1,h,x,hr=>da rfl (iD _ _ _ λy a=>eZ N n (by omega) y (aT n x y hr a))
end Go.Proofs.YtckamaoibonjcaaGreat
