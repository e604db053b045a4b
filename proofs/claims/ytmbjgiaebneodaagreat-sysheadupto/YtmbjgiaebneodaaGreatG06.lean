/- What is proved here: plain facts and contracts that the claimed theorem stands on. No condition but those that each names. -/
import Derived.Test.YtmbjgiaebneodaaGreatG05
import Derived.Laws.MakeOwn
namespace Go.Proofs.YtmbjgiaebneodaaGreat
open Go.RowKit
set_option maxHeartbeats 1000000
def yO(n:Nat)(y:Tm n):Bool:=bv n y==0 && (bD ⟨n,y⟩==6 || jh n y)
def fy(n:Nat)(q:List (Tm n)):Bool:=decide (q.length=4) && q.all (yO n)
def eS(B:Nat)(w:World)(n:Nat)(q:List (Tm n))(a:Option Addr):Prop:=
 q=[]\/∃b o,a=some ⟨b,o,none⟩/\b<B/\∀(d:Nat)(c:Tm n),q[d]?=some c->dk w b (o+d*4) n c/\In B w n c
theorem eS.below{B:Nat}{w w':World}(d:Below B w w'){n:Nat}{q:List (Tm n)}{a:Option Addr}(k:eS B w n q a):eS B w' n q a:=by
 rcases k with c|⟨b,o,i,e,c⟩
 ·exact ae c
 ·exact af ⟨b,o,i,e,λg h f=>⟨(c g h f).1.below d e,(c g h f).2.below d⟩⟩
theorem pd{a:Type}(f:a->Bool)(q:List a)(k:Nat)(y:a)(c:q[k]?=some y):(q.drop k).all f=(f y && (q.drop (k+1)).all f):=by
 obtain⟨d,b⟩:=aK.1 c;rw[eA d,b];rfl
theorem Hi(a:Option Addr)(len pc:Nat)(w:World)(_hl:len<=9223372036854775807)(b:((len:Int) !=4)=true):Calls Tryz.prog 121 #[.slice a len pc] w λe w'=>e=.returned (.bool false)/\w'=w:=by
 go_enter Tryz.func121,Tryz.ntmps121;go_wp2_with fail
 go_ret
 exact⟨rfl,rfl⟩
theorem CG(n:Nat)(q:List (Tm n))(z po pc:Nat)(B:Nat)(w:World)(L:Hid (q.length=4))(V:z<B)(K:∀(i:Nat)(y:Tm n),q[i]?=some y->dk w z (po+i*4) n y/\In B w n y)(H:∀y∈q,(ap n y).length<=2097152)(C:B<=w.heap.size):Calls Tryz.prog 121 #[.slice (some ⟨z,po,none⟩) 4 pc] w λe w'=>e=.returned (.bool (q.all (yO n)))/\Below w.heap.size w w':=by
 go_enter Tryz.func121,Tryz.ntmps121;go_wp2_with fail;go_loopw [10] (λi wr=>∃k:Nat,k<=4/\i=.int .i64 k/\Below w.heap.size w wr/\Hid ((q.drop k).all (yO n)=q.all (yO n))) (λi _=>4-(intOf i).toNat)
 case atStart=>exact⟨0,by omega,rfl,ah _ _,rfl⟩
 case round=>
  obtain⟨k,ab,rfl,c,l⟩:=hrel;by_cases U:k<4
  ·obtain⟨a,v⟩:∃a,q[k]?=some a:=⟨q[k]'(by rw[L.out];exact U),az _⟩;have s:=ai (pd (yO n) q k a v);obtain⟨x,m⟩:=K k a v;have I:=H a (ax v);replace x:=x.below (c.mono C) V;replace m:=m.below (c.mono C);clear K v H;cases n with
   | zero=>exact x.elim
   | succ n=>
   obtain⟨X,Y,Z,aa⟩:=x;have t:B<=wr.heap.size:=au C c.size
   have F:Hid (∀b,Below wr.heap.size wr b->Calls Tryz.prog 42 #[.agg #[.int .i64 a.1.1,.int .i64 a.1.2.1,.string a.1.2.2,.slice a.2.1.1 a.2.2.length a.2.1.2]] b λe w'=>e=.returned (.int .i64 (bv (n+1) a))/\Below b.heap.size b w'):=
    λb j=>dJ (n+1) a B b (m.below (j.mono t)) (au t j.size) I
   have R:Hid (∀b,Below wr.heap.size wr b->Calls Tryz.prog 43 #[.agg #[.int .i64 a.1.1,.int .i64 a.1.2.1,.string a.1.2.2,.slice a.2.1.1 a.2.2.length a.2.1.2]] b λe w'=>e=.returned (.bool (aF (n+1) a))/\Below b.heap.size b w'):=
    λb j=>gK (n+1) a B b (m.below (j.mono t)) (au t j.size)
   have r:Hid (yO (n+1) a=(bv (n+1) a==0 && (a.1.1==6 || aF (n+1) a))):=by unfold Hid yO;rw[eN];rfl
   clear m I;generalize a.2.2.length=ao at*;generalize aF (n+1) a=cl at*;generalize bv (n+1) a=h at*;generalize yO (n+1) a=aj at*;have ad:(0:Int)<=(k:Int):=by omega
   have ae:(k:Int)<(4:Int):=by omega
   have af:z<wr.heap.size:=by omega
   have E:Hid (∀o,Below wr.heap.size wr (wr.alloc o)):=λo=>(ah _ _).alloc (ag _) _;go_wp2_with fail;refine(F.out _ (E.out _)).mono ?_;rintro e b ⟨rfl,u⟩;obtain⟨⟨M,N,O,P⟩,_⟩:=BS u;have A:Hid (Below wr.heap.size wr b):=(E.out _).trans (u.mono (by simp));have S:Hid (wr.heap.size<b.heap.size):=by have:=u.size;simp at this;unfold Hid;omega
   clear u X Y Z aa F;by_cases f:h=0
   ·have T:(h !=0)=false:=by simp[f]
    have g:Hid (h=0):=f;clear f;go_wp2_with fail;refine(il _ _ _ _ _ _ _).mono ?_;rintro e Q ⟨rfl,D⟩;obtain⟨ak,al,am,an⟩:=mu S.out D ⟨M,N,O,P⟩;have p:Hid (Below wr.heap.size wr Q):=A.out.trans (D.mono A.out.size);clear D M N O P;cases G:a.1.1==6
    ·simp only[Bool.not_false];go_wp2_with fail;refine(R.out _ p.out).mono ?_;rintro e W ⟨rfl,J⟩;have d:Below w.heap.size w W:=c.trans ((p.out.trans (J.mono p.out.size)).mono c.size);clear J;cases cl with
     | true=>
      go_wp2_with fail;go_roundw
      case rel=>exact⟨k+1,by omega,by go_num,d,by rw[<-l.out,s.out,r.out,g.out];simp[Hid]⟩
      case measure=>simp[intOf];omega
     | false=>
      go_wp2_with fail
      go_ret
      exact⟨ew (by rw[<-l.out,s.out,r.out,g.out,G];simp),d⟩
    ·simp only[Bool.not_true];have d:Below w.heap.size w Q:=c.trans (p.out.mono c.size);go_wp2_with fail;go_roundw
     case rel=>exact⟨k+1,by omega,by go_num,d,by rw[<-l.out,s.out,r.out,g.out,G];simp[Hid]⟩
     case measure=>simp[intOf];omega
   ·have T:(h !=0)=true:=by simpa using f
    have g:Hid ((h==0)=false):=by simpa [Hid]using f
    have d:Below w.heap.size w b:=c.trans (A.out.mono c.size);clear f;go_wp2_with fail
    go_ret
    exact⟨ew (by rw[<-l.out,s.out,r.out,g.out];simp),d⟩
  ·go_wp2_with fail
   go_ret
   refine⟨ew ?_,c⟩;rw[<-l.out,fC (by rw[L.out];omega)];rfl
theorem xz(n:Nat)(q:List (Tm n))(a:Option Addr)(pc B:Nat)(w:World)(d:eS B w n q a)(i:q.length<=9223372036854775807)(g:∀y∈q,(ap n y).length<=2097152)(f:B<=w.heap.size):Calls Tryz.prog 121 #[.slice a q.length pc] w λe w'=>e=.returned (.bool (fy n q))/\Below w.heap.size w w':=by
 unfold fy;by_cases c:q.length=4
 ·rcases d with d|⟨b,o,rfl,h,j⟩
  ·rw[d]at c;simp at c
  ·have k:=CG n q b o pc B w c h j g f;rw[c];simpa using k
 ·refine(Hi a q.length pc w i (by simp;omega)).mono ?_;rintro e w' ⟨rfl,rfl⟩;exact⟨by simp[c],ah _ _⟩
def aH:(N:Nat)->(n:Nat)->Tm n->Tm N
 | 0,_,_=>()
 | _+1,0,_=>((0,0,.empty),(none,0),[])
 | N+1,n+1,x=>(x.1,x.2.1,x.2.2.map λy=>aH N n y)
theorem Ir(N n:Nat)(x:Tm (n+1)):ib (N+1) (aH (N+1) (n+1) x)=ib (n+1) x:=by simp[ib,bm,aH]
theorem uK(N n:Nat)(g:n<=N)(x:Tm n)(w:World)(b o:Nat)(k:dk w b o n x):dk w b o N (aH N n x):=by
 cases n with
 | zero=>exact k.elim
 | succ n=>
  obtain⟨N,rfl⟩:∃a,N=a+1:=⟨N-1,by omega⟩;obtain⟨c,d,e,f⟩:=k;exact⟨c,d,e,by simpa [aH]using f⟩
theorem nr:(N n:Nat)->n<=N->(x:Tm n)->(B:Nat)->(w:World)->In B w n x->In B w N (aH N n x)
 | _,0,_,_,_,_,k=>k.elim
 | 0,n+1,h,_,_,_,_=>by omega
 | N+1,n+1,h,x,B,w,k=>by
  obtain⟨j,a⟩:=k;refine⟨by simpa [aH]using j,?_⟩;rcases a with a|⟨b,o,e,g,a⟩
  ·exact ae (by simp[aH,a])
  ·refine af ⟨b,o,e,g,λi y d=>?_⟩;simp only[aH,df]at d;obtain⟨c,f,rfl⟩:=cG.1 d;exact⟨uK N n (by omega) c w b _ (a i c f).1,nr N n (by omega) c B w (a i c f).2⟩
theorem lL:(N n:Nat)->n<=N->(x:Tm (n+1))->ap (N+1) (aH (N+1) (n+1) x)=ap (n+1) x
 | N,0,_,x=>by
  have:∀l:List (Tm 0),(l.map λy=>aH N 0 y).flatMap (λy=>ap N y)=l.flatMap λy=>ap 0 y:=by
   intro l
   induction l with
   | nil=>rfl
   | cons a l ih=>
    simp only[aJ,bj,ih];congr 1;cases N with
    | zero=>rfl
    | succ N=>simp[aH,ap]
  simp only[ap,aH,dN,this]
 | 0,n+1,h,_=>by omega
 | N+1,n+1,h,x=>by
  have:∀l:List (Tm (n+1)),(l.map λy=>aH (N+1) (n+1) y).flatMap (λy=>ap (N+1) y)=l.flatMap λy=>ap (n+1) y:=by
   intro l
   induction l with
   | nil=>rfl
   | cons a l ih=>
    simp only[aJ,bj,ih];rw[lL N n (by omega) a]
  have b:ap (N+2) (aH (N+2) (n+2) x)=(x.1,(x.2.1.1,(x.2.2.map λy=>aH (N+1) (n+1) y).length,x.2.1.2))::(x.2.2.map λy=>aH (N+1) (n+1) y).flatMap λy=>ap (N+1) y:=rfl;rw[b,this];simp[ap]
def lA(b:List An):Nat:=b.foldr (λa m=>max a.1 m) 0
theorem wZ(b:List An):∀a∈b,a.1<=lA b:=by
 induction b with
 | nil=>intro a d;cases d
 | cons c b ih=>
  intro a d;simp only[lA,List.foldr_cons];rcases bF.1 d with rfl|d
  ·omega
  ·have:=ih a d;unfold lA at this;omega
def zM(b:List An):List (Tm (lA b)):=b.map λa=>aH (lA b) a.1 a.2
theorem GN(b:List An)(i:Nat)(y:Tm (lA b))(c:(zM b)[i]?=some y):∃a,b[i]?=some a/\a.1<=lA b/\y=aH (lA b) a.1 a.2:=by
 simp only[zM,df]at c;obtain⟨a,d,rfl⟩:=cG.1 c;exact⟨a,d,wZ b a (ax d),rfl⟩
theorem GO{base g c B:Nat}{b:List An}{w:World}(e:lB base g c b w)(k:∀y∈b,CD B w y)(j:B<=w.heap.size):eS w.heap.size w (lA b) (zM b) (some ⟨g,0,none⟩):=by
 refine af ⟨g,0,rfl,e.lt.2,λa y m=>?_⟩;obtain⟨d,f,i,rfl⟩:=GN b a y m;have h:=k d (ax f);refine⟨?_,(nr _ _ i _ _ _ h).mono j⟩;obtain⟨n,o⟩:=d;have l:=e.cells a _ f;cases n with
 | zero=>exact h.elim
 | succ n=>
  rw[cQ];exact uK _ _ i o w g (a*4) l
theorem Ev{b:List An}(f:∀y∈b,aA y/\y.1≠0):∀y∈zM b,aA ⟨lA b,y⟩:=by
 intro y k;obtain⟨m,h⟩:=cF k;obtain⟨e,g,i,rfl⟩:=GN b m y h;have j:=f e (ax g);obtain⟨n,o⟩:=e;cases n with
 | zero=>exact(j.2 rfl).elim
 | succ n=>
  intro p c;clear h k g f;generalize lA b=d at*;obtain⟨a,rfl⟩:∃a,d=a+1:=⟨d-1,by simp only at i;omega⟩;have l:=lL a n (by simp only at i;omega) o;simp only at c;rw[l]at c;exact j.1 p c
theorem gT{c d:Type}(f:c->d->Bool):(p:List c)->(q:List d)->(x:c)->(y:d)->av f p q=true->f x y=true->av f (p++ [x]) (q++ [y])=true
 | [],[],x,y,_,h=>by simp[av,h]
 | [],_::_,_,_,h,_=>by simp[av]at h
 | _::_,[],_,_,h,_=>by simp[av]at h
 | a::p,b::q,x,y,h,k=>by
  simp only[av,aB,fB]at h ⊢;exact⟨h.1,gT f p q x y h.2 k⟩
theorem cS{c d:Type}(f:c->d->Bool):(p:List c)->(q:List d)->av f p q=true->p.length=q.length
 | [],[],_=>rfl
 | [],_::_,h=>by simp[av]at h
 | _::_,[],h=>by simp[av]at h
 | a::p,b::q,h=>by
  simp only[av,aB]at h;simp[cS f p q h.2]
def zA:An:=⟨1,((0,0,.empty),(none,0),[])⟩
theorem Ds(n:Nat):(madeCells #[.int .i64 0,.int .i64 0,.string .empty,.slice none 0 0] (n*4)).toList=fo (List.replicate n zA):=by
 apply List.ext_getElem?;intro b;by_cases e:b<n*4
 ·obtain⟨k,a,f,rfl⟩:∃k a,a<4/\b=k*4+a:=⟨b / 4,b % 4,Nat.mod_lt _ (by decide),by omega⟩;have g:k<n:=by omega
  have c:(fo (List.replicate n zA))[k*4+a]?=(uQ (rd zA))[a]? :=gQ _ k (rd zA) (by simp[g]) a f;rw[c];have d:(madeCells #[.int .i64 0,.int .i64 0,.string .empty,.slice none 0 0] (n*4))[k*4+a]?=some ((#[.int .i64 0,.int .i64 0,.string .empty,.slice none 0 0]:Array Value)[(k*4+a) % 4]!):=by
   simp[madeCells,e]
  rw[jz,d,show (k*4+a) % 4=a by omega];have:a=0\/a=1\/a=2\/a=3:=by omega
  rcases this with rfl|rfl|rfl|rfl<;>rfl
 ·rw[eK (by simp[size_madeCells];omega),eK (by rw[jK];simp;omega)]
def r7(n:Nat)(p:List (Tm n))(len g k:Nat)(l:List (Tm n))(wr:World):Prop:=
 l.length=k/\lB g g len (l.map (λe=>(⟨n,e⟩:An))++List.replicate (len-k) zA) wr/\(∀a∈l,In wr.heap.size wr n a/\cg (λd=>g<d) n a)/\av (λc b=>aw n c n b) l (p.take k)=true
theorem r7.step{n:Nat}{p:List (Tm n)}{len g k:Nat}{l:List (Tm n)}{wr w1:World}(j:r7 n p len g k l wr)(w:k<len)(x:Tm n)(u:p[k]?=some x)(c:Below wr.heap.size wr w1)(y:Tm n)(v:In w1.heap.size w1 n y)(h:cg (λq=>g<q) n y)(s:aw n y n x=true):r7 n p len g (k+1) (l++ [y]) (iq w1 g (k*4) (ib n y)):=by
 obtain⟨e,m,b,o⟩:=j;have f:=(m.below c).put k ⟨n,y⟩ (by simp;omega);have i:(l.map (λx=>(⟨n,x⟩:An))++List.replicate (len-k) zA).set k ⟨n,y⟩=(l++ [y]).map (λx=>(⟨n,x⟩:An))++List.replicate (len-(k+1)) zA:=by
  rw[gw _ _ (by simp;omega)];have:len-k=(len-(k+1))+1:=by omega
  rw[this,List.replicate_succ];simp[e]
 rw[i]at f;refine⟨by simp[e],f,?_,?_⟩
 ·intro d a;have t:(iq w1 g (k*4) (ib n y)).heap.size=w1.heap.size:=aY _ _ _ _;rw[t];rcases dp.1 a with a|a
  ·exact⟨In.off (λq r=>aO (by omega) _ _ _ _) (b d a).2 (((b d a).1.below c).mono c.size),(b d a).2⟩
  ·simp only[ed]at a;subst a;exact⟨In.off (λq r=>aO (by omega) _ _ _ _) h v,h⟩
 ·rw[dz,u];exact gT _ _ _ _ _ o s
def fK(n:Nat)(p:List (Tm n))(w w':World)(a:Option Addr)(c:Nat)(l:List (Tm n)):Prop:=
 Below w.heap.size w w'/\l.length=p.length/\l.length<=c/\c<=maxLen/\av (λa b=>aw n a n b) l p=true/\
 (l=[]\/∃b o,a=some ⟨b,o,none⟩/\(w.heap.size<=b/\o=0/\(∀g,w'.frozen? ⟨b,g,none⟩=false)/\∀d∈l,cg (λe=>e≠b) n d)/\b<w'.heap.size/\∀(f:Nat)(d:Tm n),l[f]?=some d->dk w' b (o+f*4) n d/\In w'.heap.size w' n d/\cg (λe=>w.heap.size<=e) n d)
theorem r7.done{n:Nat}{p:List (Tm n)}{len k:Nat}{l:List (Tm n)}{w wr:World}(f:r7 n p len w.heap.size k l wr)(u:p.length=len)(j:k=len)(g:Below w.heap.size w wr)(m:len<=maxLen):fK n p w wr (some ⟨w.heap.size,0,none⟩) len l:=by
 obtain⟨t,c,d,e⟩:=f;subst j;rw[bk (by omega)]at e;rw[iK,lp,dL]at c;refine⟨g,by omega,by omega,m,e,af ⟨w.heap.size,0,rfl,⟨ag _,rfl,λr=>c.free r,λb a=>(d b a).2.mono λs o=>by omega⟩,c.lt.2,λq b a=>⟨?_,(d b (ax a)).1,(d b (ax a)).2.mono λs o=>by omega⟩⟩⟩;have h:=c.cells q ⟨n,b⟩ (by simp[a]);have i:=(d b (ax a)).1;cases n with
 | zero=>exact i.elim
 | succ n=>
  rw[cQ];exact h
def Lp(n:Nat):Prop:=∀(x:Tm n)(B:Nat)(w:World),In B w n x->B<=w.heap.size->aA ⟨n,x⟩->
 Calls Tryz.prog 45 #[de n x] w λe w'=>∃y:Tm n,e=.returned (de n y)/\Hid (Below w.heap.size w w'/\In w'.heap.size w' n y/\cg (λq=>w.heap.size<=q) n y/\aw n y n x=true)
theorem sn{s t:ByteArray}(b:(s.toList==t.toList)=true):s=t:=by
 have a:s.toList=t.toList:=by simpa using b
 rw[dm,dm]at a;cases s;cases t;simp only at a;rw[Array.toList_inj.1 a]
theorem bq{n m:Nat}{x:Tm (n+1)}{y:Tm (m+1)}(c:aw (n+1) x (m+1) y=true):x.1=y.1/\av (λa b=>aw n a m b) x.2.2 y.2.2=true:=by
 simp only[aw,aB,cr]at c;obtain⟨⟨⟨d,e⟩,f⟩,g⟩:=c;refine⟨?_,g⟩;have h:=sn (s:=x.1.2.2) (t:=y.1.2.2) (by simpa using f);exact gB d (gB e h)
theorem bS{n m:Nat}{x:Tm (n+1)}{y:Tm (m+1)}(c:x.1=y.1)(k:av (λa b=>aw n a m b) x.2.2 y.2.2=true):aw (n+1) x (m+1) y=true:=by
 simp only[aw,c,k];simp
theorem oM{c d:Type}(f:c->d->Bool)(g:d->c->Bool):(p:List c)->(q:List d)->(∀a∈p,∀b,f a b=true->g b a=true)->av f p q=true->av g q p=true
 | [],[],_,_=>rfl
 | [],_::_,_,h=>by simp[av]at h
 | _::_,[],_,h=>by simp[av]at h
 | a::p,b::q,hf,h=>by
  simp only[av,aB]at h ⊢;exact⟨hf a (by simp) b h.1,oM f g p q (λe i=>hf e (bU _ i)) h.2⟩
theorem dD:(n:Nat)->(x:Tm n)->(m:Nat)->(y:Tm m)->aw n x m y=true->aw m y n x=true
 | 0,_,_,_,h=>by simp[aw]at h
 | _+1,_,0,_,h=>by simp[aw]at h
 | n+1,x,m+1,y,h=>by
  obtain⟨c,d⟩:=bq h;exact bS c.symm (oM _ _ _ _ (λa _ b e=>dD n a m b e) d)
theorem mN{d e i:Type}(f:d->e->Bool)(g:e->i->Bool)(k:d->i->Bool):(p:List d)->(q:List e)->(r:List i)->(∀a∈p,∀b c,f a b=true->g b c=true->k a c=true)->av f p q=true->av g q r=true->av k p r=true
 | [],[],[],_,_,_=>rfl
 | [],[],_::_,_,_,h=>by simp[av]at h
 | [],_::_,_,_,h,_=>by simp[av]at h
 | _::_,[],_,_,h,_=>by simp[av]at h
 | _::_,_::_,[],_,_,h=>by simp[av]at h
 | a::p,b::q,c::r,hf,h1,h2=>by
  simp only[av,aB]at h1 h2 ⊢;exact⟨hf a (by simp) b c h1.1 h2.1,mN f g k p q r (λj l=>hf j (bU _ l)) h1.2 h2.2⟩
theorem bJ:(n:Nat)->(x:Tm n)->(m:Nat)->(y:Tm m)->(l:Nat)->(d:Tm l)->aw n x m y=true->aw m y l d=true->aw n x l d=true
 | 0,_,_,_,_,_,h,_=>by simp[aw]at h
 | _+1,_,0,_,_,_,h,_=>by simp[aw]at h
 | _+1,_,_+1,_,0,_,_,h=>by simp[aw]at h
 | n+1,x,m+1,y,l+1,d,h,k=>by
  obtain⟨e,f⟩:=bq h;obtain⟨j,o⟩:=bq k;exact bS (e.trans j) (mN _ _ _ _ _ _ (λa _ b c g i=>bJ n a m b l c g i) f o)
theorem jW{b:Type}(f:b->b->Bool):(p:List b)->(∀a∈p,f a a=true)->av f p p=true
 | [],_=>rfl
 | a::p,h=>by
  simp only[av,aB];exact⟨h a (by simp),jW f p λc d=>h c (bU _ d)⟩
theorem fS:(n:Nat)->(x:Tm n)->aA ⟨n,x⟩->aw n x n x=true
 | 0,_,h=>(cU h).elim
 | n+1,x,h=>bS rfl (jW _ _ λy a=>fS n y (aU n x y h a))
theorem aI{n:Nat}{x:Tm n}:aA ⟨n,x⟩ ↔ bO n x=true:=by
 rw[km,bT];exact Iff.rfl
theorem Ih{x:Int×Int×ByteArray}{a b:Option Addr}{l c d:Nat}:bQ (x,(a,l,c))=bQ (x,(b,l,d)):=rfl
theorem qD{c d:Type}(f:c->d->Bool)(g:c->Bool)(k:d->Bool):(p:List c)->(q:List d)->(∀a∈p,∀b,f a b=true->g a=k b)->av f p q=true->p.all g=q.all k
 | [],[],_,_=>rfl
 | [],_::_,_,h=>by simp[av]at h
 | _::_,[],_,h=>by simp[av]at h
 | a::p,b::q,hf,h=>by
  simp only[av,aB]at h;simp only[List.all_cons,hf a (by simp) b h.1,qD f g k p q (λe i=>hf e (bU _ i)) h.2]
theorem ju{c d e:Type}(f:c->d->Bool)(g:c->e)(k:d->e):(p:List c)->(q:List d)->(∀a∈p,∀b,f a b=true->g a=k b)->av f p q=true->p.map g=q.map k
 | [],[],_,_=>rfl
 | [],_::_,_,h=>by simp[av]at h
 | _::_,[],_,h=>by simp[av]at h
 | a::p,b::q,hf,h=>by
  simp only[av,aB]at h;simp only[aJ,hf a (by simp) b h.1,ju f g k p q (λi j=>hf i (bU _ j)) h.2]
theorem sJ{b:Type}(g:b->Int):(p:List b)->(i:Int)->p.foldl (λm y=>max m (g y)) i=(p.map g).foldl max i
 | [],_=>rfl
 | a::p,i=>by simp only[iF,aJ];exact sJ g p _
theorem cw:(n:Nat)->(x:Tm n)->(m:Nat)->(y:Tm m)->aw n x m y=true->aF n x=aF m y
 | 0,_,_,_,h=>by simp[aw]at h
 | _+1,_,0,_,h=>by simp[aw]at h
 | n+1,x,m+1,y,h=>by
  obtain⟨c,d⟩:=bq h;simp only[aF,c];rw[qD _ _ _ _ _ (λa _ b e=>cw n a m b e) d]
theorem iu:(n:Nat)->(x:Tm n)->(m:Nat)->(y:Tm m)->aw n x m y=true->bO n x=bO m y
 | 0,_,_,_,h=>by simp[aw]at h
 | _+1,_,0,_,h=>by simp[aw]at h
 | n+1,x,m+1,y,h=>by
  obtain⟨a,c⟩:=bq h;have e:bQ (bm n x)=bQ (bm m y):=by
   have g:=cS _ _ _ c;unfold bm;rw[a,g];exact Ih
  simp only[bO,e,a];rw[qD _ _ _ _ _ (λd _ b f=>iu n d m b f) c]
theorem ku:(n:Nat)->(x:Tm n)->(m:Nat)->(y:Tm m)->aw n x m y=true->sz n x=sz m y
 | 0,_,_,_,h=>by simp[aw]at h
 | _+1,_,0,_,h=>by simp[aw]at h
 | n+1,x,m+1,y,h=>by
  obtain⟨c,d⟩:=bq h;simp only[sz,c];rw[ju _ (λy=>1+sz n y) (λy=>1+sz m y) _ _ (λa _ b e=>by rw[ku n a m b e]) d]
theorem zt:(n:Nat)->(x:Tm n)->(m:Nat)->(y:Tm m)->aw n x m y=true->eQ n x=eQ m y
 | 0,_,_,_,h=>by simp[aw]at h
 | _+1,_,0,_,h=>by simp[aw]at h
 | n+1,x,m+1,y,h=>by
  obtain⟨c,d⟩:=bq h;simp only[eQ,c];rw[sJ (λy=>eQ n y),sJ (λy=>eQ m y),ju _ (λy=>eQ n y) (λy=>eQ m y) _ _ (λa _ b e=>zt n a m b e) d]
theorem bI{n m:Nat}{x:Tm n}{y:Tm m}(a:aw n x m y=true):bv n x=bv m y:=by
 rw[<-iv,<-iv];unfold wU;rw[iu n x m y a,ku n x m y a,zt n x m y a]
theorem jv{n m:Nat}{x:Tm n}{y:Tm m}(a:aw n x m y=true):bD ⟨n,x⟩=bD ⟨m,y⟩:=by
 cases n with
 | zero=>simp[aw]at a
 | succ n=>
  cases m with
  | zero=>simp[aw]at a
  | succ m=>
   have:=(bq a).1;simp only[bD,this]
theorem jV{c d:Type}(f:c->d->Bool):(p:List c)->(q:List d)->av f p q=true->∀(i:Nat)(a:c)(b:d),p[i]?=some a->q[i]?=some b->f a b=true
 | [],_,_,i,a,b,ha,_=>by simp at ha
 | _::_,[],h,_,_,_,_,_=>by simp[av]at h
 | a::p,b::q,h,0,a',b',ha,hb=>by
  simp only[av,aB]at h;simp at ha hb;subst ha hb;exact h.1
 | a::p,b::q,h,i+1,a',b',ha,hb=>by
  simp only[av,aB]at h;exact jV f p q h.2 i a' b' (by simpa using ha) (by simpa using hb)
theorem gS{b c:Type}(f:c->b->Bool)(g:b->c):(p:List b)->(∀a∈p,f (g a) a=true)->av f (p.map g) p=true
 | [],_=>rfl
 | a::p,h=>by
  simp only[aJ,av,aB];exact⟨h a (by simp),gS f g p λd e=>h d (bU _ e)⟩
theorem fP:(N n:Nat)->n<=N->(x:Tm n)->aA ⟨n,x⟩->aw N (aH N n x) n x=true
 | _,0,_,_,h=>(cU h).elim
 | 0,n+1,h,_,_=>by omega
 | N+1,n+1,h,x,hr=>bS rfl (gS _ _ _ λy a=>fP N n (by omega) y (aU n x y hr a))
end Go.Proofs.YtmbjgiaebneodaaGreat
