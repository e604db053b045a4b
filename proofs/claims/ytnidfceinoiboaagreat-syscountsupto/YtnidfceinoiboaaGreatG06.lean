/- What is proved here: plain facts and contracts that the claimed theorem stands on. No condition but those that each names. -/
import Derived.Test.YtnidfceinoiboaaGreatG05
import Derived.Laws.MakeOwn
namespace Go.Proofs.YtnidfceinoiboaaGreat
open Go.RowKit
set_option maxHeartbeats 1000000
def zm(n:Nat)(y:Tm n):Bool:=bA n y==0 && (bE ⟨n,y⟩==6 || jt n y)
def fG(n:Nat)(q:List (Tm n)):Bool:=decide (q.length=4) && q.all (zm n)
def eY(B:Nat)(w:World)(n:Nat)(q:List (Tm n))(a:Option Addr):Prop:=
 q=[]\/∃b o,a=some ⟨b,o,none⟩/\b<B/\∀(d:Nat)(c:Tm n),q[d]?=some c->dr w b (o+d*4) n c/\In B w n c
theorem eY.below{B:Nat}{w w':World}(d:Below B w w'){n:Nat}{q:List (Tm n)}{a:Option Addr}(k:eY B w n q a):eY B w' n q a:=by
 rcases k with c|⟨b,o,i,e,c⟩
 ·exact ae c
 ·exact af ⟨b,o,i,e,λg h f=>⟨(c g h f).1.below d e,(c g h f).2.below d⟩⟩
theorem px{a:Type}(f:a->Bool)(q:List a)(k:Nat)(y:a)(c:q[k]?=some y):(q.drop k).all f=(f y && (q.drop (k+1)).all f):=by
 obtain⟨d,b⟩:=aK.1 c;rw[eF d,b];rfl
theorem Ii(a:Option Addr)(len pc:Nat)(w:World)(_hl:len<=9223372036854775807)(b:((len:Int) !=4)=true):Calls Tryz.prog 144 #[.slice a len pc] w λe w'=>e=.returned (.bool false)/\w'=w:=by
 go_enter Tryz.func144,Tryz.ntmps144;go_wp2_with fail
 go_ret
 exact⟨rfl,rfl⟩
theorem C0(n:Nat)(q:List (Tm n))(z po pc:Nat)(B:Nat)(w:World)(L:Hid (q.length=4))(V:z<B)(K:∀(i:Nat)(y:Tm n),q[i]?=some y->dr w z (po+i*4) n y/\In B w n y)(H:∀y∈q,(aq n y).length<=2097152)(C:B<=w.heap.size):Calls Tryz.prog 144 #[.slice (some ⟨z,po,none⟩) 4 pc] w λe w'=>e=.returned (.bool (q.all (zm n)))/\Below w.heap.size w w':=by
 go_enter Tryz.func144,Tryz.ntmps144;go_wp2_with fail;go_loopw [10] (λi wr=>∃k:Nat,k<=4/\i=.int .i64 k/\Below w.heap.size w wr/\Hid ((q.drop k).all (zm n)=q.all (zm n))) (λi _=>4-(intOf i).toNat)
 case atStart=>exact⟨0,by omega,rfl,ah _ _,rfl⟩
 case round=>
  obtain⟨k,ab,rfl,c,l⟩:=hrel;by_cases U:k<4
  ·obtain⟨a,v⟩:∃a,q[k]?=some a:=⟨q[k]'(by rw[L.out];exact U),aA _⟩;have s:=ai (px (zm n) q k a v);obtain⟨x,m⟩:=K k a v;have I:=H a (ay v);replace x:=x.below (c.mono C) V;replace m:=m.below (c.mono C);clear K v H;cases n with
   | zero=>exact x.elim
   | succ n=>
   obtain⟨X,Y,Z,aa⟩:=x;have t:B<=wr.heap.size:=au C c.size
   have F:Hid (∀b,Below wr.heap.size wr b->Calls Tryz.prog 42 #[.agg #[.int .i64 a.1.1,.int .i64 a.1.2.1,.string a.1.2.2,.slice a.2.1.1 a.2.2.length a.2.1.2]] b λe w'=>e=.returned (.int .i64 (bA (n+1) a))/\Below b.heap.size b w'):=
    λb j=>dL (n+1) a B b (m.below (j.mono t)) (au t j.size) I
   have R:Hid (∀b,Below wr.heap.size wr b->Calls Tryz.prog 43 #[.agg #[.int .i64 a.1.1,.int .i64 a.1.2.1,.string a.1.2.2,.slice a.2.1.1 a.2.2.length a.2.1.2]] b λe w'=>e=.returned (.bool (aF (n+1) a))/\Below b.heap.size b w'):=
    λb j=>gX (n+1) a B b (m.below (j.mono t)) (au t j.size)
   have r:Hid (zm (n+1) a=(bA (n+1) a==0 && (a.1.1==6 || aF (n+1) a))):=by unfold Hid zm;rw[eT];rfl
   clear m I;generalize a.2.2.length=an at*;generalize aF (n+1) a=cl at*;generalize bA (n+1) a=h at*;generalize zm (n+1) a=ok at*;have ad:(0:Int)<=(k:Int):=by omega
   have ae:(k:Int)<(4:Int):=by omega
   have af:z<wr.heap.size:=by omega
   have E:Hid (∀o,Below wr.heap.size wr (wr.alloc o)):=λo=>(ah _ _).alloc (ag _) _;go_wp2_with fail;refine(F.out _ (E.out _)).mono ?_;rintro e b ⟨rfl,u⟩;obtain⟨⟨M,N,O,P⟩,_⟩:=Ch u;have A:Hid (Below wr.heap.size wr b):=(E.out _).trans (u.mono (by simp));have S:Hid (wr.heap.size<b.heap.size):=by have:=u.size;simp at this;unfold Hid;omega
   clear u X Y Z aa F;by_cases f:h=0
   ·have T:(h !=0)=false:=by simp[f]
    have g:Hid (h=0):=f;clear f;go_wp2_with fail;refine(iD _ _ _ _ _ _ _).mono ?_;rintro e Q ⟨rfl,D⟩;obtain⟨aj,ak,al,am⟩:=mH S.out D ⟨M,N,O,P⟩;have p:Hid (Below wr.heap.size wr Q):=A.out.trans (D.mono A.out.size);clear D M N O P;cases G:a.1.1==6
    ·simp only[Bool.not_false];go_wp2_with fail;refine(R.out _ p.out).mono ?_;rintro e W ⟨rfl,J⟩;have d:Below w.heap.size w W:=c.trans ((p.out.trans (J.mono p.out.size)).mono c.size);clear J;cases cl with
     | true=>
      go_wp2_with fail;go_roundw
      case rel=>exact⟨k+1,by omega,by go_num,d,by rw[<-l.out,s.out,r.out,g.out];simp[Hid]⟩
      case measure=>simp[intOf];omega
     | false=>
      go_wp2_with fail
      go_ret
      exact⟨eA (by rw[<-l.out,s.out,r.out,g.out,G];simp),d⟩
    ·simp only[Bool.not_true];have d:Below w.heap.size w Q:=c.trans (p.out.mono c.size);go_wp2_with fail;go_roundw
     case rel=>exact⟨k+1,by omega,by go_num,d,by rw[<-l.out,s.out,r.out,g.out,G];simp[Hid]⟩
     case measure=>simp[intOf];omega
   ·have T:(h !=0)=true:=by simpa using f
    have g:Hid ((h==0)=false):=by simpa [Hid]using f
    have d:Below w.heap.size w b:=c.trans (A.out.mono c.size);clear f;go_wp2_with fail
    go_ret
    exact⟨eA (by rw[<-l.out,s.out,r.out,g.out];simp),d⟩
  ·go_wp2_with fail
   go_ret
   refine⟨eA ?_,c⟩;rw[<-l.out,fJ (by rw[L.out];omega)];rfl
theorem xR(n:Nat)(q:List (Tm n))(a:Option Addr)(pc B:Nat)(w:World)(d:eY B w n q a)(i:q.length<=9223372036854775807)(g:∀y∈q,(aq n y).length<=2097152)(f:B<=w.heap.size):Calls Tryz.prog 144 #[.slice a q.length pc] w λe w'=>e=.returned (.bool (fG n q))/\Below w.heap.size w w':=by
 unfold fG;by_cases c:q.length=4
 ·rcases d with d|⟨b,o,rfl,h,j⟩
  ·rw[d]at c;simp at c
  ·have k:=C0 n q b o pc B w c h j g f;rw[c];simpa using k
 ·refine(Ii a q.length pc w i (by simp;omega)).mono ?_;rintro e w' ⟨rfl,rfl⟩;exact⟨by simp[c],ah _ _⟩
def aI:(N:Nat)->(n:Nat)->Tm n->Tm N
 | 0,_,_=>()
 | _+1,0,_=>((0,0,.empty),(none,0),[])
 | N+1,n+1,x=>(x.1,x.2.1,x.2.2.map λy=>aI N n y)
theorem IU(N n:Nat)(x:Tm (n+1)):iv (N+1) (aI (N+1) (n+1) x)=iv (n+1) x:=by simp[iv,bm,aI]
theorem ve(N n:Nat)(g:n<=N)(x:Tm n)(w:World)(b o:Nat)(k:dr w b o n x):dr w b o N (aI N n x):=by
 cases n with
 | zero=>exact k.elim
 | succ n=>
  obtain⟨N,rfl⟩:∃a,N=a+1:=⟨N-1,by omega⟩;obtain⟨c,d,e,f⟩:=k;exact⟨c,d,e,by simpa [aI]using f⟩
theorem nE:(N n:Nat)->n<=N->(x:Tm n)->(B:Nat)->(w:World)->In B w n x->In B w N (aI N n x)
 | _,0,_,_,_,_,k=>k.elim
 | 0,n+1,h,_,_,_,_=>by omega
 | N+1,n+1,h,x,B,w,k=>by
  obtain⟨g,a⟩:=k;refine⟨by simpa [aI]using g,?_⟩;rcases a with a|⟨b,o,e,f,a⟩
  ·exact ae (by simp[aI,a])
  ·refine af ⟨b,o,e,f,λi y c=>?_⟩;simp only[aI,dh]at c;obtain⟨z,d,rfl⟩:=cD.1 c;exact⟨ve N n (by omega) z w b _ (a i z d).1,nE N n (by omega) z B w (a i z d).2⟩
theorem l7:(N n:Nat)->n<=N->(x:Tm (n+1))->aq (N+1) (aI (N+1) (n+1) x)=aq (n+1) x
 | N,0,_,x=>by
  have:∀l:List (Tm 0),(l.map λy=>aI N 0 y).flatMap (λy=>aq N y)=l.flatMap λy=>aq 0 y:=by
   intro l
   induction l with
   | nil=>rfl
   | cons a l ih=>
    simp only[aH,bj,ih];congr 1;cases N with
    | zero=>rfl
    | succ N=>simp[aI,aq]
  simp only[aq,aI,dO,this]
 | 0,n+1,h,_=>by omega
 | N+1,n+1,h,x=>by
  have:∀l:List (Tm (n+1)),(l.map λy=>aI (N+1) (n+1) y).flatMap (λy=>aq (N+1) y)=l.flatMap λy=>aq (n+1) y:=by
   intro l
   induction l with
   | nil=>rfl
   | cons a l ih=>
    simp only[aH,bj,ih];rw[l7 N n (by omega) a]
  have b:aq (N+2) (aI (N+2) (n+2) x)=(x.1,(x.2.1.1,(x.2.2.map λy=>aI (N+1) (n+1) y).length,x.2.1.2))::(x.2.2.map λy=>aI (N+1) (n+1) y).flatMap λy=>aq (N+1) y:=rfl;rw[b,this];simp[aq]
def lQ(b:List An):Nat:=b.foldr (λa m=>max a.1 m) 0
theorem xz(b:List An):∀a∈b,a.1<=lQ b:=by
 induction b with
 | nil=>intro a d;cases d
 | cons c b ih=>
  intro a d;simp only[lQ,List.foldr_cons];rcases br.1 d with rfl|d
  ·omega
  ·have:=ih a d;unfold lQ at this;omega
def Ag(b:List An):List (Tm (lQ b)):=b.map λa=>aI (lQ b) a.1 a.2
theorem Hb(b:List An)(i:Nat)(y:Tm (lQ b))(c:(Ag b)[i]?=some y):∃a,b[i]?=some a/\a.1<=lQ b/\y=aI (lQ b) a.1 a.2:=by
 simp only[Ag,dh]at c;obtain⟨a,d,rfl⟩:=cD.1 c;exact⟨a,d,xz b a (ay d),rfl⟩
theorem Hc{base g c B:Nat}{b:List An}{w:World}(e:lR base g c b w)(k:∀y∈b,CX B w y)(j:B<=w.heap.size):eY w.heap.size w (lQ b) (Ag b) (some ⟨g,0,none⟩):=by
 refine af ⟨g,0,rfl,e.lt.2,λa y m=>?_⟩;obtain⟨d,f,i,rfl⟩:=Hb b a y m;have h:=k d (ay f);refine⟨?_,(nE _ _ i _ _ _ h).mono j⟩;obtain⟨n,o⟩:=d;have l:=e.cells a _ f;cases n with
 | zero=>exact h.elim
 | succ n=>
  rw[cU];exact ve _ _ i o w g (a*4) l
theorem EM{b:List An}(f:∀y∈b,aB y/\y.1≠0):∀y∈Ag b,aB ⟨lQ b,y⟩:=by
 intro y k;obtain⟨m,h⟩:=cB k;obtain⟨e,g,i,rfl⟩:=Hb b m y h;have j:=f e (ay g);obtain⟨n,o⟩:=e;cases n with
 | zero=>exact(j.2 rfl).elim
 | succ n=>
  intro p c;clear h k g f;generalize lQ b=d at*;obtain⟨a,rfl⟩:∃a,d=a+1:=⟨d-1,by simp only at i;omega⟩;have l:=l7 a n (by simp only at i;omega) o;simp only at c;rw[l]at c;exact j.1 p c
theorem ic{c d:Type}(f:c->d->Bool):(p:List c)->(q:List d)->(x:c)->(y:d)->av f p q=true->f x y=true->av f (p++ [x]) (q++ [y])=true
 | [],[],x,y,_,h=>by simp[av,h]
 | [],_::_,_,_,h,_=>by simp[av]at h
 | _::_,[],_,_,h,_=>by simp[av]at h
 | a::p,b::q,x,y,h,k=>by
  simp only[av,az,fq]at h ⊢;exact⟨h.1,ic f p q x y h.2 k⟩
theorem cV{c d:Type}(f:c->d->Bool):(p:List c)->(q:List d)->av f p q=true->p.length=q.length
 | [],[],_=>rfl
 | [],_::_,h=>by simp[av]at h
 | _::_,[],h=>by simp[av]at h
 | a::p,b::q,h=>by
  simp only[av,az]at h;simp[cV f p q h.2]
def zA:An:=⟨1,((0,0,.empty),(none,0),[])⟩
theorem DM(n:Nat):(madeCells #[.int .i64 0,.int .i64 0,.string .empty,.slice none 0 0] (n*4)).toList=fz (List.replicate n zA):=by
 apply List.ext_getElem?;intro b;by_cases e:b<n*4
 ·obtain⟨k,a,f,rfl⟩:∃k a,a<4/\b=k*4+a:=⟨b / 4,b % 4,Nat.mod_lt _ (by decide),by omega⟩;have g:k<n:=by omega
  have c:(fz (List.replicate n zA))[k*4+a]?=(vj (rz zA))[a]? :=ia _ k (rz zA) (by simp[g]) a f;rw[c];have d:(madeCells #[.int .i64 0,.int .i64 0,.string .empty,.slice none 0 0] (n*4))[k*4+a]?=some ((#[.int .i64 0,.int .i64 0,.string .empty,.slice none 0 0]:Array Value)[(k*4+a) % 4]!):=by
   simp[madeCells,e]
  rw[jL,d,show (k*4+a) % 4=a by omega];have:a=0\/a=1\/a=2\/a=3:=by omega
  rcases this with rfl|rfl|rfl|rfl<;>rfl
 ·rw[eP (by simp[size_madeCells];omega),eP (by rw[j8];simp;omega)]
def sx(n:Nat)(p:List (Tm n))(len g k:Nat)(l:List (Tm n))(wr:World):Prop:=
 l.length=k/\lR g g len (l.map (λe=>(⟨n,e⟩:An))++List.replicate (len-k) zA) wr/\(∀a∈l,In wr.heap.size wr n a/\ch (λd=>g<d) n a)/\av (λc b=>aw n c n b) l (p.take k)=true
theorem sx.step{n:Nat}{p:List (Tm n)}{len g k:Nat}{l:List (Tm n)}{wr w1:World}(j:sx n p len g k l wr)(w:k<len)(x:Tm n)(u:p[k]?=some x)(c:Below wr.heap.size wr w1)(y:Tm n)(v:In w1.heap.size w1 n y)(h:ch (λq=>g<q) n y)(s:aw n y n x=true):sx n p len g (k+1) (l++ [y]) (iH w1 g (k*4) (iv n y)):=by
 obtain⟨e,m,b,o⟩:=j;have f:=(m.below c).put k ⟨n,y⟩ (by simp;omega);have i:(l.map (λx=>(⟨n,x⟩:An))++List.replicate (len-k) zA).set k ⟨n,y⟩=(l++ [y]).map (λx=>(⟨n,x⟩:An))++List.replicate (len-(k+1)) zA:=by
  rw[gL _ _ (by simp;omega)];have:len-k=(len-(k+1))+1:=by omega
  rw[this,List.replicate_succ];simp[e]
 rw[i]at f;refine⟨by simp[e],f,?_,?_⟩
 ·intro d a;have t:(iH w1 g (k*4) (iv n y)).heap.size=w1.heap.size:=aZ _ _ _ _;rw[t];rcases di.1 a with a|a
  ·exact⟨In.off (λq r=>aO (by omega) _ _ _ _) (b d a).2 (((b d a).1.below c).mono c.size),(b d a).2⟩
  ·simp only[dj]at a;subst a;exact⟨In.off (λq r=>aO (by omega) _ _ _ _) h v,h⟩
 ·rw[dw,u];exact ic _ _ _ _ _ o s
def fV(n:Nat)(p:List (Tm n))(w w':World)(a:Option Addr)(c:Nat)(l:List (Tm n)):Prop:=
 Below w.heap.size w w'/\l.length=p.length/\l.length<=c/\c<=maxLen/\av (λa b=>aw n a n b) l p=true/\
 (l=[]\/∃b o,a=some ⟨b,o,none⟩/\(w.heap.size<=b/\o=0/\(∀g,w'.frozen? ⟨b,g,none⟩=false)/\∀d∈l,ch (λe=>e≠b) n d)/\b<w'.heap.size/\∀(f:Nat)(d:Tm n),l[f]?=some d->dr w' b (o+f*4) n d/\In w'.heap.size w' n d/\ch (λe=>w.heap.size<=e) n d)
theorem sx.done{n:Nat}{p:List (Tm n)}{len k:Nat}{l:List (Tm n)}{w wr:World}(f:sx n p len w.heap.size k l wr)(u:p.length=len)(j:k=len)(g:Below w.heap.size w wr)(m:len<=maxLen):fV n p w wr (some ⟨w.heap.size,0,none⟩) len l:=by
 obtain⟨t,c,d,e⟩:=f;subst j;rw[bk (by omega)]at e;rw[iZ,lN,ee]at c;refine⟨g,by omega,by omega,m,e,af ⟨w.heap.size,0,rfl,⟨ag _,rfl,λr=>c.free r,λb a=>(d b a).2.mono λs o=>by omega⟩,c.lt.2,λq b a=>⟨?_,(d b (ay a)).1,(d b (ay a)).2.mono λs o=>by omega⟩⟩⟩;have h:=c.cells q ⟨n,b⟩ (by simp[a]);have i:=(d b (ay a)).1;cases n with
 | zero=>exact i.elim
 | succ n=>
  rw[cU];exact h
def LS(n:Nat):Prop:=∀(x:Tm n)(B:Nat)(w:World),In B w n x->B<=w.heap.size->aB ⟨n,x⟩->
 Calls Tryz.prog 45 #[dg n x] w λe w'=>∃y:Tm n,e=.returned (dg n y)/\Hid (Below w.heap.size w w'/\In w'.heap.size w' n y/\ch (λq=>w.heap.size<=q) n y/\aw n y n x=true)
theorem sK{s t:ByteArray}(b:(s.toList==t.toList)=true):s=t:=by
 have a:s.toList=t.toList:=by simpa using b
 rw[du,du]at a;cases s;cases t;simp only at a;rw[Array.toList_inj.1 a]
theorem bq{n m:Nat}{x:Tm (n+1)}{y:Tm (m+1)}(c:aw (n+1) x (m+1) y=true):x.1=y.1/\av (λa b=>aw n a m b) x.2.2 y.2.2=true:=by
 simp only[aw,az,ci]at c;obtain⟨⟨⟨d,e⟩,f⟩,g⟩:=c;refine⟨?_,g⟩;have h:=sK (s:=x.1.2.2) (t:=y.1.2.2) (by simpa using f);exact gM d (gM e h)
theorem bX{n m:Nat}{x:Tm (n+1)}{y:Tm (m+1)}(c:x.1=y.1)(k:av (λa b=>aw n a m b) x.2.2 y.2.2=true):aw (n+1) x (m+1) y=true:=by
 simp only[aw,c,k];simp
theorem oY{c d:Type}(f:c->d->Bool)(g:d->c->Bool):(p:List c)->(q:List d)->(∀a∈p,∀b,f a b=true->g b a=true)->av f p q=true->av g q p=true
 | [],[],_,_=>rfl
 | [],_::_,_,h=>by simp[av]at h
 | _::_,[],_,h=>by simp[av]at h
 | a::p,b::q,hf,h=>by
  simp only[av,az]at h ⊢;exact⟨hf a (by simp) b h.1,oY f g p q (λe i=>hf e (bR _ i)) h.2⟩
theorem dU:(n:Nat)->(x:Tm n)->(m:Nat)->(y:Tm m)->aw n x m y=true->aw m y n x=true
 | 0,_,_,_,h=>by simp[aw]at h
 | _+1,_,0,_,h=>by simp[aw]at h
 | n+1,x,m+1,y,h=>by
  obtain⟨c,d⟩:=bq h;exact bX c.symm (oY _ _ _ _ (λa _ b e=>dU n a m b e) d)
theorem mY{d e i:Type}(f:d->e->Bool)(g:e->i->Bool)(k:d->i->Bool):(p:List d)->(q:List e)->(r:List i)->(∀a∈p,∀b c,f a b=true->g b c=true->k a c=true)->av f p q=true->av g q r=true->av k p r=true
 | [],[],[],_,_,_=>rfl
 | [],[],_::_,_,_,h=>by simp[av]at h
 | [],_::_,_,_,h,_=>by simp[av]at h
 | _::_,[],_,_,h,_=>by simp[av]at h
 | _::_,_::_,[],_,_,h=>by simp[av]at h
 | a::p,b::q,c::r,hf,h1,h2=>by
  simp only[av,az]at h1 h2 ⊢;exact⟨hf a (by simp) b c h1.1 h2.1,mY f g k p q r (λj l=>hf j (bR _ l)) h1.2 h2.2⟩
theorem bP:(n:Nat)->(x:Tm n)->(m:Nat)->(y:Tm m)->(l:Nat)->(z:Tm l)->aw n x m y=true->aw m y l z=true->aw n x l z=true
 | 0,_,_,_,_,_,h,_=>by simp[aw]at h
 | _+1,_,0,_,_,_,h,_=>by simp[aw]at h
 | _+1,_,_+1,_,0,_,_,h=>by simp[aw]at h
 | n+1,x,m+1,y,l+1,z,h,k=>by
  obtain⟨d,e⟩:=bq h;obtain⟨i,j⟩:=bq k;exact bX (d.trans i) (mY _ _ _ _ _ _ (λa _ b c f g=>bP n a m b l c f g) e j)
theorem kv{b:Type}(f:b->b->Bool):(p:List b)->(∀a∈p,f a a=true)->av f p p=true
 | [],_=>rfl
 | a::p,h=>by
  simp only[av,az];exact⟨h a (by simp),kv f p λc d=>h c (bR _ d)⟩
theorem gf:(n:Nat)->(x:Tm n)->aB ⟨n,x⟩->aw n x n x=true
 | 0,_,h=>(cX h).elim
 | n+1,x,h=>bX rfl (kv _ _ λy a=>gf n y (aU n x y h a))
theorem aJ{n:Nat}{x:Tm n}:aB ⟨n,x⟩ ↔ bO n x=true:=by
 rw[kH,bS];exact Iff.rfl
theorem II{x:Int×Int×ByteArray}{a b:Option Addr}{l c d:Nat}:bT (x,(a,l,c))=bT (x,(b,l,d)):=rfl
theorem qO{c d:Type}(f:c->d->Bool)(g:c->Bool)(k:d->Bool):(p:List c)->(q:List d)->(∀a∈p,∀b,f a b=true->g a=k b)->av f p q=true->p.all g=q.all k
 | [],[],_,_=>rfl
 | [],_::_,_,h=>by simp[av]at h
 | _::_,[],_,h=>by simp[av]at h
 | a::p,b::q,hf,h=>by
  simp only[av,az]at h;simp only[List.all_cons,hf a (by simp) b h.1,qO f g k p q (λe i=>hf e (bR _ i)) h.2]
theorem jG{c d e:Type}(f:c->d->Bool)(g:c->e)(k:d->e):(p:List c)->(q:List d)->(∀a∈p,∀b,f a b=true->g a=k b)->av f p q=true->p.map g=q.map k
 | [],[],_,_=>rfl
 | [],_::_,_,h=>by simp[av]at h
 | _::_,[],_,h=>by simp[av]at h
 | a::p,b::q,hf,h=>by
  simp only[av,az]at h;simp only[aH,hf a (by simp) b h.1,jG f g k p q (λi j=>hf i (bR _ j)) h.2]
theorem s8{b:Type}(g:b->Int):(p:List b)->(i:Int)->p.foldl (λm y=>max m (g y)) i=(p.map g).foldl max i
 | [],_=>rfl
 | a::p,i=>by simp only[gK,aH];exact s8 g p _
theorem cw:(n:Nat)->(x:Tm n)->(m:Nat)->(y:Tm m)->aw n x m y=true->aF n x=aF m y
 | 0,_,_,_,h=>by simp[aw]at h
 | _+1,_,0,_,h=>by simp[aw]at h
 | n+1,x,m+1,y,h=>by
  obtain⟨c,d⟩:=bq h;simp only[aF,c];rw[qO _ _ _ _ _ (λa _ b e=>cw n a m b e) d]
theorem iJ:(n:Nat)->(x:Tm n)->(m:Nat)->(y:Tm m)->aw n x m y=true->bO n x=bO m y
 | 0,_,_,_,h=>by simp[aw]at h
 | _+1,_,0,_,h=>by simp[aw]at h
 | n+1,x,m+1,y,h=>by
  obtain⟨a,c⟩:=bq h;have e:bT (bm n x)=bT (bm m y):=by
   have g:=cV _ _ _ c;unfold bm;rw[a,g];exact II
  simp only[bO,e,a];rw[qO _ _ _ _ _ (λd _ b f=>iJ n d m b f) c]
theorem kO:(n:Nat)->(x:Tm n)->(m:Nat)->(y:Tm m)->aw n x m y=true->sz n x=sz m y
 | 0,_,_,_,h=>by simp[aw]at h
 | _+1,_,0,_,h=>by simp[aw]at h
 | n+1,x,m+1,y,h=>by
  obtain⟨c,d⟩:=bq h;simp only[sz,c];rw[jG _ (λy=>1+sz n y) (λy=>1+sz m y) _ _ (λa _ b e=>by rw[kO n a m b e]) d]
theorem zN:(n:Nat)->(x:Tm n)->(m:Nat)->(y:Tm m)->aw n x m y=true->eW n x=eW m y
 | 0,_,_,_,h=>by simp[aw]at h
 | _+1,_,0,_,h=>by simp[aw]at h
 | n+1,x,m+1,y,h=>by
  obtain⟨c,d⟩:=bq h;simp only[eW,c];rw[s8 (λy=>eW n y),s8 (λy=>eW m y),jG _ (λy=>eW n y) (λy=>eW m y) _ _ (λa _ b e=>zN n a m b e) d]
theorem bI{n m:Nat}{x:Tm n}{y:Tm m}(a:aw n x m y=true):bA n x=bA m y:=by
 rw[<-iK,<-iK];unfold xu;rw[iJ n x m y a,kO n x m y a,zN n x m y a]
theorem jH{n m:Nat}{x:Tm n}{y:Tm m}(a:aw n x m y=true):bE ⟨n,x⟩=bE ⟨m,y⟩:=by
 cases n with
 | zero=>simp[aw]at a
 | succ n=>
  cases m with
  | zero=>simp[aw]at a
  | succ m=>
   have:=(bq a).1;simp only[bE,this]
theorem ku{c d:Type}(f:c->d->Bool):(p:List c)->(q:List d)->av f p q=true->∀(i:Nat)(a:c)(b:d),p[i]?=some a->q[i]?=some b->f a b=true
 | [],_,_,i,a,b,ha,_=>by simp at ha
 | _::_,[],h,_,_,_,_,_=>by simp[av]at h
 | a::p,b::q,h,0,a',b',ha,hb=>by
  simp only[av,az]at h;simp at ha hb;subst ha hb;exact h.1
 | a::p,b::q,h,i+1,a',b',ha,hb=>by
  simp only[av,az]at h;exact ku f p q h.2 i a' b' (by simpa using ha) (by simpa using hb)
theorem ib{b c:Type}(f:c->b->Bool)(g:b->c):(p:List b)->(∀a∈p,f (g a) a=true)->av f (p.map g) p=true
 | [],_=>rfl
 | a::p,h=>by
  simp only[aH,av,az];exact⟨h a (by simp),ib f g p λd e=>h d (bR _ e)⟩
theorem gd:(N n:Nat)->n<=N->(x:Tm n)->aB ⟨n,x⟩->aw N (aI N n x) n x=true
 | _,0,_,_,h=>(cX h).elim
 | 0,n+1,h,_,_=>by omega
 | N+1,n+1,h,x,hr=>bX rfl (ib _ _ _ λy a=>gd N n (by omega) y (aU n x y hr a))
end Go.Proofs.YtnidfceinoiboaaGreat
