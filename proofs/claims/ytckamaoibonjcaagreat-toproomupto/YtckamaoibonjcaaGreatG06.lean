/- What is proved here: plain facts and contracts that the claimed theorem stands on. No condition but those that each names. -/
import Derived.Test.YtckamaoibonjcaaGreatG05
import Derived.Laws.MakeOwn
namespace Go.Proofs.YtckamaoibonjcaaGreat
open Go.RowKit
set_option maxHeartbeats 1000000
def AD(n:Nat)(y:Tm n):Bool:=bm n y==0 && (bK ⟨n,y⟩==6 || jD n y)
def fO(n:Nat)(q:List (Tm n)):Bool:=decide (q.length=4) && q.all (AD n)
def fe(B:Nat)(w:World)(n:Nat)(q:List (Tm n))(a:Option Addr):Prop:=
 q=[]\/∃b o,a=some ⟨b,o,none⟩/\b<B/\∀(d:Nat)(c:Tm n),q[d]?=some c->dy w b (o+d*4) n c/\In B w n c
theorem fe.below{B:Nat}{w w':World}(d:Below B w w'){n:Nat}{q:List (Tm n)}{a:Option Addr}(k:fe B w n q a):fe B w' n q a:=by
 rcases k with c|⟨b,o,i,e,c⟩
 ·exact ae c
 ·exact af ⟨b,o,i,e,λg h f=>⟨(c g h f).1.below d e,(c g h f).2.below d⟩⟩
theorem p9{a:Type}(f:a->Bool)(q:List a)(k:Nat)(y:a)(c:q[k]?=some y):(q.drop k).all f=(f y && (q.drop (k+1)).all f):=by
 obtain⟨d,b⟩:=aL.1 c;rw[eP d,b];rfl
theorem Ka(a:Option Addr)(len pc:Nat)(w:World)(_hl:len<=9223372036854775807)(b:((len:Int) !=4)=true):ah 158 #[.slice a len pc] w λe w'=>e=.returned (.bool false)/\w'=w:=by
 go_enter Tryz.func158,Tryz.ntmps158;go_wp2_with fail
 go_ret
 exact⟨rfl,rfl⟩
theorem Ez(n:Nat)(q:List (Tm n))(z po pc:Nat)(B:Nat)(w:World)(L:Hid (q.length=4))(V:z<B)(K:∀(i:Nat)(y:Tm n),q[i]?=some y->dy w z (po+i*4) n y/\In B w n y)(H:∀y∈q,(ar n y).length<=2097152)(C:B<=w.heap.size):ah 158 #[.slice (some ⟨z,po,none⟩) 4 pc] w λe w'=>e=.returned (.bool (q.all (AD n)))/\ag w w':=by
 go_enter Tryz.func158,Tryz.ntmps158;go_wp2_with fail;go_loopw [10] (λi wr=>∃k:Nat,k<=4/\i=.int .i64 k/\ag w wr/\Hid ((q.drop k).all (AD n)=q.all (AD n))) (λi _=>4-(intOf i).toNat)
 case atStart=>exact⟨0,by omega,rfl,ak _ _,rfl⟩
 case round=>
  obtain⟨k,ab,rfl,c,l⟩:=hrel;by_cases U:k<4
  ·obtain⟨a,v⟩:∃a,q[k]?=some a:=⟨q[k]'(by rw[L.out];exact U),aD _⟩;have s:=aj (p9 (AD n) q k a v);obtain⟨x,m⟩:=K k a v;have I:=H a (aC v);replace x:=x.below (c.mono C) V;replace m:=m.below (c.mono C);clear K v H;cases n with
   | zero=>exact x.elim
   | succ n=>
   obtain⟨X,Y,Z,aa⟩:=x;have t:B<=wr.heap.size:=aw C c.size
   have F:Hid (∀b,ag wr b->ah 51 #[.agg #[.int .i64 a.1.1,.int .i64 a.1.2.1,.string a.1.2.2,.slice a.2.1.1 a.2.2.length a.2.1.2]] b λe w'=>e=.returned (.int .i64 (bm (n+1) a))/\ag b w'):=
    λb j=>dx (n+1) a B b (m.below (j.mono t)) (aw t j.size) I
   have R:Hid (∀b,ag wr b->ah 52 #[.agg #[.int .i64 a.1.1,.int .i64 a.1.2.1,.string a.1.2.2,.slice a.2.1.1 a.2.2.length a.2.1.2]] b λe w'=>e=.returned (.bool (aF (n+1) a))/\ag b w'):=
    λb j=>ie (n+1) a B b (m.below (j.mono t)) (aw t j.size)
   have r:Hid (AD (n+1) a=(bm (n+1) a==0 && (a.1.1==6 || aF (n+1) a))):=by unfold Hid AD;rw[eT];rfl
   clear m I;generalize a.2.2.length=ap at*;generalize aF (n+1) a=cl at*;generalize bm (n+1) a=h at*;generalize AD (n+1) a=ok at*;have ad:(0:Int)<=(k:Int):=by omega
   have ae:(k:Int)<(4:Int):=by omega
   have af:z<wr.heap.size:=by omega
   have E:Hid (∀o,ag wr (wr.alloc o)):=λo=>(ak _ _).alloc (ai _) _;go_wp2_with fail;refine(F.out _ (E.out _)).mono ?_;rintro e b ⟨rfl,u⟩;obtain⟨⟨M,N,O,P⟩,_⟩:=DF u;have A:Hid (ag wr b):=(E.out _).trans (u.mono (by simp));have S:Hid (wr.heap.size<b.heap.size):=by have:=u.size;simp at this;unfold Hid;omega
   clear u X Y Z aa F;by_cases f:h=0
   ·have T:(h !=0)=false:=by simp[f]
    have g:Hid (h=0):=f;clear f;go_wp2_with fail;refine(iQ _ _ _ _ _ _ _).mono ?_;rintro e Q ⟨rfl,D⟩;obtain⟨al,am,an,ao⟩:=nh S.out D ⟨M,N,O,P⟩;have p:Hid (ag wr Q):=A.out.trans (D.mono A.out.size);clear D M N O P;cases G:a.1.1==6
    ·simp only[Bool.not_false];go_wp2_with fail;refine(R.out _ p.out).mono ?_;rintro e W ⟨rfl,J⟩;have d:ag w W:=c.trans ((p.out.trans (J.mono p.out.size)).mono c.size);clear J;cases cl with
     | true=>
      go_wp2_with fail;go_roundw
      case rel=>exact⟨k+1,by omega,by go_num,d,by rw[<-l.out,s.out,r.out,g.out];simp[Hid]⟩
      case measure=>simp[intOf];omega
     | false=>
      go_wp2_with fail
      go_ret
      exact⟨ft (by rw[<-l.out,s.out,r.out,g.out,G];simp),d⟩
    ·simp only[Bool.not_true];have d:ag w Q:=c.trans (p.out.mono c.size);go_wp2_with fail;go_roundw
     case rel=>exact⟨k+1,by omega,by go_num,d,by rw[<-l.out,s.out,r.out,g.out,G];simp[Hid]⟩
     case measure=>simp[intOf];omega
   ·have T:(h !=0)=true:=by simpa using f
    have g:Hid ((h==0)=false):=by simpa [Hid]using f
    have d:ag w b:=c.trans (A.out.mono c.size);clear f;go_wp2_with fail
    go_ret
    exact⟨ft (by rw[<-l.out,s.out,r.out,g.out];simp),d⟩
  ·go_wp2_with fail
   go_ret
   refine⟨ft ?_,c⟩;rw[<-l.out,ja (by rw[L.out];omega)];rfl
theorem zh(n:Nat)(q:List (Tm n))(a:Option Addr)(pc B:Nat)(w:World)(d:fe B w n q a)(i:q.length<=9223372036854775807)(g:∀y∈q,(ar n y).length<=2097152)(f:B<=w.heap.size):ah 158 #[.slice a q.length pc] w λe w'=>e=.returned (.bool (fO n q))/\ag w w':=by
 unfold fO;by_cases c:q.length=4
 ·rcases d with d|⟨b,o,rfl,h,j⟩
  ·rw[d]at c;simp at c
  ·have k:=Ez n q b o pc B w c h j g f;rw[c];simpa using k
 ·refine(Ka a q.length pc w i (by simp;omega)).mono ?_;rintro e w' ⟨rfl,rfl⟩;exact⟨by simp[c],ak _ _⟩
def aK:(N:Nat)->(n:Nat)->Tm n->Tm N
 | 0,_,_=>()
 | _+1,0,_=>((0,0,.empty),(none,0),[])
 | N+1,n+1,x=>(x.1,x.2.1,x.2.2.map λy=>aK N n y)
theorem KN(N n:Nat)(x:Tm (n+1)):fQ (N+1) (aK (N+1) (n+1) x)=fQ (n+1) x:=by simp[fQ,bu,aK]
theorem vS(N n:Nat)(g:n<=N)(x:Tm n)(w:World)(b o:Nat)(k:dy w b o n x):dy w b o N (aK N n x):=by
 cases n with
 | zero=>exact k.elim
 | succ n=>
  obtain⟨N,rfl⟩:∃a,N=a+1:=⟨N-1,by omega⟩;obtain⟨c,d,e,f⟩:=k;exact⟨c,d,e,by simpa [aK]using f⟩
theorem nW:(N n:Nat)->n<=N->(x:Tm n)->(B:Nat)->(w:World)->In B w n x->In B w N (aK N n x)
 | _,0,_,_,_,_,k=>k.elim
 | 0,n+1,h,_,_,_,_=>by omega
 | N+1,n+1,h,x,B,w,k=>by
  obtain⟨j,a⟩:=k;refine⟨by simpa [aK]using j,?_⟩;rcases a with a|⟨b,o,e,g,a⟩
  ·exact ae (by simp[aK,a])
  ·refine af ⟨b,o,e,g,λi y d=>?_⟩;simp only[aK,dj]at d;obtain⟨c,f,rfl⟩:=b8.1 d;exact⟨vS N n (by omega) c w b _ (a i c f).1,nW N n (by omega) c B w (a i c f).2⟩
theorem mE:(N n:Nat)->n<=N->(x:Tm (n+1))->ar (N+1) (aK (N+1) (n+1) x)=ar (n+1) x
 | N,0,_,x=>by
  have:∀l:List (Tm 0),(l.map λy=>aK N 0 y).flatMap (λy=>ar N y)=l.flatMap λy=>ar 0 y:=by
   intro l
   induction l with
   | nil=>rfl
   | cons a l ih=>
    simp only[aH,bv,ih];congr 1;cases N with
    | zero=>rfl
    | succ N=>simp[aK,ar]
  simp only[ar,aK,fA,this]
 | 0,n+1,h,_=>by omega
 | N+1,n+1,h,x=>by
  have:∀l:List (Tm (n+1)),(l.map λy=>aK (N+1) (n+1) y).flatMap (λy=>ar (N+1) y)=l.flatMap λy=>ar (n+1) y:=by
   intro l
   induction l with
   | nil=>rfl
   | cons a l ih=>
    simp only[aH,bv,ih];rw[mE N n (by omega) a]
  have b:ar (N+2) (aK (N+2) (n+2) x)=(x.1,(x.2.1.1,(x.2.2.map λy=>aK (N+1) (n+1) y).length,x.2.1.2))::(x.2.2.map λy=>aK (N+1) (n+1) y).flatMap λy=>ar (N+1) y:=rfl;rw[b,this];simp[ar]
def mm(b:List An):Nat:=b.foldr (λa m=>max a.1 m) 0
theorem yF(b:List An):∀a∈b,a.1<=mm b:=by
 induction b with
 | nil=>intro a d;cases d
 | cons c b ih=>
  intro a d;simp only[mm,List.foldr_cons];rcases cv.1 d with rfl|d
  ·omega
  ·have:=ih a d;unfold mm at this;omega
def Bo(b:List An):List (Tm (mm b)):=b.map λa=>aK (mm b) a.1 a.2
theorem JA(b:List An)(i:Nat)(y:Tm (mm b))(c:(Bo b)[i]?=some y):∃a,b[i]?=some a/\a.1<=mm b/\y=aK (mm b) a.1 a.2:=by
 simp only[Bo,dj]at c;obtain⟨a,d,rfl⟩:=b8.1 c;exact⟨a,d,yF b a (aC d),rfl⟩
theorem JB{base g c B:Nat}{b:List An}{w:World}(e:mn base g c b w)(k:∀y∈b,Eu B w y)(j:B<=w.heap.size):fe w.heap.size w (mm b) (Bo b) (some ⟨g,0,none⟩):=by
 refine af ⟨g,0,rfl,e.lt.2,λa y m=>?_⟩;obtain⟨d,f,i,rfl⟩:=JA b a y m;have h:=k d (aC f);refine⟨?_,(nW _ _ i _ _ _ h).mono j⟩;obtain⟨n,o⟩:=d;have l:=e.cells a _ f;cases n with
 | zero=>exact h.elim
 | succ n=>
  rw[cN];exact vS _ _ i o w g (a*4) l
theorem GB{b:List An}(f:∀y∈b,av y/\y.1≠0):∀y∈Bo b,av ⟨mm b,y⟩:=by
 intro y k;obtain⟨m,h⟩:=cM k;obtain⟨e,g,i,rfl⟩:=JA b m y h;have j:=f e (aC g);obtain⟨n,o⟩:=e;cases n with
 | zero=>exact(j.2 rfl).elim
 | succ n=>
  intro p c;clear h k g f;generalize mm b=d at*;obtain⟨a,rfl⟩:∃a,d=a+1:=⟨d-1,by simp only at i;omega⟩;have l:=mE a n (by simp only at i;omega) o;simp only at c;rw[l]at c;exact j.1 p c
theorem iu{c d:Type}(f:c->d->Bool):(p:List c)->(q:List d)->(x:c)->(y:d)->az f p q=true->f x y=true->az f (p++ [x]) (q++ [y])=true
 | [],[],x,y,_,h=>by simp[az,h]
 | [],_::_,_,_,h,_=>by simp[az]at h
 | _::_,[],_,_,h,_=>by simp[az]at h
 | a::p,b::q,x,y,h,k=>by
  simp only[az,ay,fz]at h ⊢;exact⟨h.1,iu f p q x y h.2 k⟩
theorem cu{c d:Type}(f:c->d->Bool):(p:List c)->(q:List d)->az f p q=true->p.length=q.length
 | [],[],_=>rfl
 | [],_::_,h=>by simp[az]at h
 | _::_,[],h=>by simp[az]at h
 | a::p,b::q,h=>by
  simp only[az,ay]at h;simp[cu f p q h.2]
def zA:An:=⟨1,((0,0,.empty),(none,0),[])⟩
theorem Fu(n:Nat):(madeCells #[.int .i64 0,.int .i64 0,.string .empty,.slice none 0 0] (n*4)).toList=fF (List.replicate n zA):=by
 apply List.ext_getElem?;intro b;by_cases e:b<n*4
 ·obtain⟨k,a,f,rfl⟩:∃k a,a<4/\b=k*4+a:=⟨b / 4,b % 4,Nat.mod_lt _ (by decide),by omega⟩;have g:k<n:=by omega
  have c:(fF (List.replicate n zA))[k*4+a]?=(ur (r9 zA))[a]? :=io _ k (r9 zA) (by simp[g]) a f;rw[c];have d:(madeCells #[.int .i64 0,.int .i64 0,.string .empty,.slice none 0 0] (n*4))[k*4+a]?=some ((#[.int .i64 0,.int .i64 0,.string .empty,.slice none 0 0]:Array Value)[(k*4+a) % 4]!):=by
   simp[madeCells,e]
  rw[lV,d,show (k*4+a) % 4=a by omega];have:a=0\/a=1\/a=2\/a=3:=by omega
  rcases this with rfl|rfl|rfl|rfl<;>rfl
 ·rw[ed (by simp[size_madeCells];omega),ed (by rw[kj];simp;omega)]
def tj(n:Nat)(p:List (Tm n))(len g k:Nat)(l:List (Tm n))(wr:World):Prop:=
 l.length=k/\mn g g len (l.map (λe=>(⟨n,e⟩:An))++List.replicate (len-k) zA) wr/\(∀a∈l,In wr.heap.size wr n a/\bV (λd=>g<d) n a)/\az (λc b=>au n c n b) l (p.take k)=true
theorem tj.step{n:Nat}{p:List (Tm n)}{len g k:Nat}{l:List (Tm n)}{wr w1:World}(j:tj n p len g k l wr)(w:k<len)(x:Tm n)(u:p[k]?=some x)(c:ag wr w1)(y:Tm n)(v:In w1.heap.size w1 n y)(h:bV (λq=>g<q) n y)(s:au n y n x=true):tj n p len g (k+1) (l++ [y]) (iT w1 g (k*4) (fQ n y)):=by
 obtain⟨e,m,b,o⟩:=j;have f:=(m.below c).put k ⟨n,y⟩ (by simp;omega);have i:(l.map (λx=>(⟨n,x⟩:An))++List.replicate (len-k) zA).set k ⟨n,y⟩=(l++ [y]).map (λx=>(⟨n,x⟩:An))++List.replicate (len-(k+1)) zA:=by
  rw[gW _ _ (by simp;omega)];have:len-k=(len-(k+1))+1:=by omega
  rw[this,List.replicate_succ];simp[e]
 rw[i]at f;refine⟨by simp[e],f,?_,?_⟩
 ·intro d a;have t:(iT w1 g (k*4) (fQ n y)).heap.size=w1.heap.size:=bf _ _ _ _;rw[t];rcases cU.1 a with a|a
  ·exact⟨In.off (λq r=>aR (by omega) _ _ _ _) (b d a).2 (((b d a).1.below c).mono c.size),(b d a).2⟩
  ·simp only[dA]at a;subst a;exact⟨In.off (λq r=>aR (by omega) _ _ _ _) h v,h⟩
 ·rw[dt,u];exact iu _ _ _ _ _ o s
def gn(n:Nat)(p:List (Tm n))(w w':World)(a:Option Addr)(c:Nat)(l:List (Tm n)):Prop:=
 ag w w'/\l.length=p.length/\l.length<=c/\c<=maxLen/\az (λa b=>au n a n b) l p=true/\
 (l=[]\/∃b o,a=some ⟨b,o,none⟩/\(w.heap.size<=b/\o=0/\(∀g,w'.frozen? ⟨b,g,none⟩=false)/\∀d∈l,bV (λe=>e≠b) n d)/\b<w'.heap.size/\∀(f:Nat)(d:Tm n),l[f]?=some d->dy w' b (o+f*4) n d/\In w'.heap.size w' n d/\bV (λe=>w.heap.size<=e) n d)
theorem tj.done{n:Nat}{p:List (Tm n)}{len k:Nat}{l:List (Tm n)}{w wr:World}(f:tj n p len w.heap.size k l wr)(u:p.length=len)(j:k=len)(g:ag w wr)(m:len<=maxLen):gn n p w wr (some ⟨w.heap.size,0,none⟩) len l:=by
 obtain⟨t,c,d,e⟩:=f;subst j;rw[bw (by omega)]at e;rw[ji,mg,dY]at c;refine⟨g,by omega,by omega,m,e,af ⟨w.heap.size,0,rfl,⟨ai _,rfl,λr=>c.free r,λb a=>(d b a).2.mono λs o=>by omega⟩,c.lt.2,λq b a=>⟨?_,(d b (aC a)).1,(d b (aC a)).2.mono λs o=>by omega⟩⟩⟩;have h:=c.cells q ⟨n,b⟩ (by simp[a]);have i:=(d b (aC a)).1;cases n with
 | zero=>exact i.elim
 | succ n=>
  rw[cN];exact h
def NQ(n:Nat):Prop:=∀(x:Tm n)(B:Nat)(w:World),In B w n x->B<=w.heap.size->av ⟨n,x⟩->
 ah 54 #[dd n x] w λe w'=>∃y:Tm n,e=.returned (dd n y)/\Hid (ag w w'/\In w'.heap.size w' n y/\bV (λq=>w.heap.size<=q) n y/\au n y n x=true)
theorem tB{s t:ByteArray}(b:(s.toList==t.toList)=true):s=t:=by
 have a:s.toList=t.toList:=by simpa using b
 rw[bW,bW]at a;cases s;cases t;simp only at a;rw[lW.1 a]
theorem bz{n m:Nat}{x:Tm (n+1)}{y:Tm (m+1)}(c:au (n+1) x (m+1) y=true):x.1=y.1/\az (λa b=>au n a m b) x.2.2 y.2.2=true:=by
 simp only[au,ay,b9]at c;obtain⟨⟨⟨d,e⟩,f⟩,g⟩:=c;refine⟨?_,g⟩;have h:=tB (s:=x.1.2.2) (t:=y.1.2.2) (by simpa using f);exact gX d (gX e h)
theorem cW{n m:Nat}{x:Tm (n+1)}{y:Tm (m+1)}(c:x.1=y.1)(k:az (λa b=>au n a m b) x.2.2 y.2.2=true):au (n+1) x (m+1) y=true:=by
 simp only[au,c,k];simp
theorem pI{c d:Type}(f:c->d->Bool)(g:d->c->Bool):(p:List c)->(q:List d)->(∀a∈p,∀b,f a b=true->g b a=true)->az f p q=true->az g q p=true
 | [],[],_,_=>rfl
 | [],_::_,_,h=>by simp[az]at h
 | _::_,[],_,h=>by simp[az]at h
 | a::p,b::q,hf,h=>by
  simp only[az,ay]at h ⊢;exact⟨hf a (by simp) b h.1,pI f g p q (λe i=>hf e (bI _ i)) h.2⟩
theorem dF:(n:Nat)->(x:Tm n)->(m:Nat)->(y:Tm m)->au n x m y=true->au m y n x=true
 | 0,_,_,_,h=>by simp[au]at h
 | _+1,_,0,_,h=>by simp[au]at h
 | n+1,x,m+1,y,h=>by
  obtain⟨c,d⟩:=bz h;exact cW c.symm (pI _ _ _ _ (λa _ b e=>dF n a m b e) d)
theorem nD{d e i:Type}(f:d->e->Bool)(g:e->i->Bool)(k:d->i->Bool):(p:List d)->(q:List e)->(r:List i)->(∀a∈p,∀b c,f a b=true->g b c=true->k a c=true)->az f p q=true->az g q r=true->az k p r=true
 | [],[],[],_,_,_=>rfl
 | [],[],_::_,_,_,h=>by simp[az]at h
 | [],_::_,_,_,h,_=>by simp[az]at h
 | _::_,[],_,_,h,_=>by simp[az]at h
 | _::_,_::_,[],_,_,h=>by simp[az]at h
 | a::p,b::q,c::r,hf,h1,h2=>by
  simp only[az,ay]at h1 h2 ⊢;exact⟨hf a (by simp) b c h1.1 h2.1,nD f g k p q r (λj l=>hf j (bI _ l)) h1.2 h2.2⟩
theorem bM:(n:Nat)->(x:Tm n)->(m:Nat)->(y:Tm m)->(l:Nat)->(d:Tm l)->au n x m y=true->au m y l d=true->au n x l d=true
 | 0,_,_,_,_,_,h,_=>by simp[au]at h
 | _+1,_,0,_,_,_,h,_=>by simp[au]at h
 | _+1,_,_+1,_,0,_,_,h=>by simp[au]at h
 | n+1,x,m+1,y,l+1,d,h,k=>by
  obtain⟨e,f⟩:=bz h;obtain⟨j,o⟩:=bz k;exact cW (e.trans j) (nD _ _ _ _ _ _ (λa _ b c g i=>bM n a m b l c g i) f o)
theorem ir{b:Type}(f:b->b->Bool):(p:List b)->(∀a∈p,f a a=true)->az f p p=true
 | [],_=>rfl
 | a::p,h=>by
  simp only[az,ay];exact⟨h a (by simp),ir f p λc d=>h c (bI _ d)⟩
theorem eV:(n:Nat)->(x:Tm n)->av ⟨n,x⟩->au n x n x=true
 | 0,_,h=>(cY h).elim
 | n+1,x,h=>cW rfl (ir _ _ λy a=>eV n y (aN n x y h a))
theorem aG{n:Nat}{x:Tm n}:av ⟨n,x⟩ ↔ bQ n x=true:=by
 rw[kM,bX];exact Iff.rfl
theorem Kz{x:Int×Int×ByteArray}{a b:Option Addr}{l c d:Nat}:cm (x,(a,l,c))=cm (x,(b,l,d)):=rfl
theorem rJ{c d:Type}(f:c->d->Bool)(g:c->Bool)(k:d->Bool):(p:List c)->(q:List d)->(∀a∈p,∀b,f a b=true->g a=k b)->az f p q=true->p.all g=q.all k
 | [],[],_,_=>rfl
 | [],_::_,_,h=>by simp[az]at h
 | _::_,[],_,h=>by simp[az]at h
 | a::p,b::q,hf,h=>by
  simp only[az,ay]at h;simp only[iE,hf a (by simp) b h.1,rJ f g k p q (λe i=>hf e (bI _ i)) h.2]
theorem jQ{c d e:Type}(f:c->d->Bool)(g:c->e)(k:d->e):(p:List c)->(q:List d)->(∀a∈p,∀b,f a b=true->g a=k b)->az f p q=true->p.map g=q.map k
 | [],[],_,_=>rfl
 | [],_::_,_,h=>by simp[az]at h
 | _::_,[],_,h=>by simp[az]at h
 | a::p,b::q,hf,h=>by
  simp only[az,ay]at h;simp only[aH,hf a (by simp) b h.1,jQ f g k p q (λi j=>hf i (bI _ j)) h.2]
theorem tR{b:Type}(g:b->Int):(p:List b)->(i:Int)->p.foldl (λm y=>max m (g y)) i=(p.map g).foldl max i
 | [],_=>rfl
 | a::p,i=>by simp only[fU,aH];exact tR g p _
theorem co:(n:Nat)->(x:Tm n)->(m:Nat)->(y:Tm m)->au n x m y=true->aF n x=aF m y
 | 0,_,_,_,h=>by simp[au]at h
 | _+1,_,0,_,h=>by simp[au]at h
 | n+1,x,m+1,y,h=>by
  obtain⟨c,d⟩:=bz h;simp only[aF,c];rw[rJ _ _ _ _ _ (λa _ b e=>co n a m b e) d]
theorem iW:(n:Nat)->(x:Tm n)->(m:Nat)->(y:Tm m)->au n x m y=true->bQ n x=bQ m y
 | 0,_,_,_,h=>by simp[au]at h
 | _+1,_,0,_,h=>by simp[au]at h
 | n+1,x,m+1,y,h=>by
  obtain⟨a,c⟩:=bz h;have e:cm (bu n x)=cm (bu m y):=by
   have g:=cu _ _ _ c;unfold bu;rw[a,g];exact Kz
  simp only[bQ,e,a];rw[rJ _ _ _ _ _ (λd _ b f=>iW n d m b f) c]
theorem kS:(n:Nat)->(x:Tm n)->(m:Nat)->(y:Tm m)->au n x m y=true->sz n x=sz m y
 | 0,_,_,_,h=>by simp[au]at h
 | _+1,_,0,_,h=>by simp[au]at h
 | n+1,x,m+1,y,h=>by
  obtain⟨c,d⟩:=bz h;simp only[sz,c];rw[jQ _ (λy=>1+sz n y) (λy=>1+sz m y) _ _ (λa _ b e=>by rw[kS n a m b e]) d]
theorem A0:(n:Nat)->(x:Tm n)->(m:Nat)->(y:Tm m)->au n x m y=true->eW n x=eW m y
 | 0,_,_,_,h=>by simp[au]at h
 | _+1,_,0,_,h=>by simp[au]at h
 | n+1,x,m+1,y,h=>by
  obtain⟨c,d⟩:=bz h;simp only[eW,c];rw[tR (λy=>eW n y),tR (λy=>eW m y),jQ _ (λy=>eW n y) (λy=>eW m y) _ _ (λa _ b e=>A0 n a m b e) d]
theorem bH{n m:Nat}{x:Tm n}{y:Tm m}(a:au n x m y=true):bm n x=bm m y:=by
 rw[<-fS,<-fS];unfold vv;rw[iW n x m y a,kS n x m y a,A0 n x m y a]
theorem jR{n m:Nat}{x:Tm n}{y:Tm m}(a:au n x m y=true):bK ⟨n,x⟩=bK ⟨m,y⟩:=by
 cases n with
 | zero=>simp[au]at a
 | succ n=>
  cases m with
  | zero=>simp[au]at a
  | succ m=>
   have:=(bz a).1;simp only[bK,this]
theorem iV{c d:Type}(f:c->d->Bool):(p:List c)->(q:List d)->az f p q=true->∀(i:Nat)(a:c)(b:d),p[i]?=some a->q[i]?=some b->f a b=true
 | [],_,_,i,a,b,ha,_=>by simp at ha
 | _::_,[],h,_,_,_,_,_=>by simp[az]at h
 | a::p,b::q,h,0,a',b',ha,hb=>by
  simp only[az,ay]at h;simp at ha hb;subst ha hb;exact h.1
 | a::p,b::q,h,i+1,a',b',ha,hb=>by
  simp only[az,ay]at h;exact iV f p q h.2 i a' b' (by simpa using ha) (by simpa using hb)
theorem iq{b c:Type}(f:c->b->Bool)(g:b->c):(p:List b)->(∀a∈p,f (g a) a=true)->az f (p.map g) p=true
 | [],_=>rfl
 | a::p,h=>by
  simp only[aH,az,ay];exact⟨h a (by simp),iq f g p λd e=>h d (bI _ e)⟩
theorem eU:(N n:Nat)->n<=N->(x:Tm n)->av ⟨n,x⟩->au N (aK N n x) n x=true
 | _,0,_,_,h=>(cY h).elim
 | 0,n+1,h,_,_=>by omega
 | N+1,n+1,h,x,hr=>cW rfl (iq _ _ _ λy a=>eU N n (by omega) y (aN n x y hr a))
end Go.Proofs.YtckamaoibonjcaaGreat
