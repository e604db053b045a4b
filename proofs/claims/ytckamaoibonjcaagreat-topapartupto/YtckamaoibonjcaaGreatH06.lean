/- What is proved here: plain facts and contracts that the claimed theorem stands on. No condition but those that each names. -/
import Derived.Test.YtckamaoibonjcaaGreatH05
import Derived.Laws.MakeOwn
namespace Go.Proofs.YtckamaoibonjcaaGreat
open Go.RowKit
set_option maxHeartbeats 1000000
def AL(n:Nat)(y:Tm n):Bool:=bq n y==0 && (bN ⟨n,y⟩==6 || jD n y)
def fV(n:Nat)(q:List (Tm n)):Bool:=decide (q.length=4) && q.all (AL n)
def ft(B:Nat)(w:World)(n:Nat)(q:List (Tm n))(a:Option Addr):Prop:=
 q=[]\/∃b o,a=some ⟨b,o,none⟩/\b<B/\∀(d:Nat)(c:Tm n),q[d]?=some c->dr w b (o+d*4) n c/\In B w n c
theorem ft.below{B:Nat}{w w':World}(d:Below B w w'){n:Nat}{q:List (Tm n)}{a:Option Addr}(k:ft B w n q a):ft B w' n q a:=by
 rcases k with c|⟨b,o,i,e,c⟩
 ·exact ag c
 ·exact ah ⟨b,o,i,e,λg h f=>⟨(c g h f).1.below d e,(c g h f).2.below d⟩⟩
theorem qj{a:Type}(f:a->Bool)(q:List a)(k:Nat)(y:a)(c:q[k]?=some y):(q.drop k).all f=(f y && (q.drop (k+1)).all f):=by
 obtain⟨d,b⟩:=aM.1 c;rw[ee d,b];rfl
theorem Ku(a:Option Addr)(len pc:Nat)(w:World)(_hl:len<=9223372036854775807)(b:((len:Int) !=4)=true):ak 158 #[.slice a len pc] w λe w'=>e=.returned (.bool false)/\w'=w:=by
 go_enter Tryz.func158,Tryz.ntmps158;go_wp2_with fail
 go_ret
 exact⟨rfl,rfl⟩
theorem EM(n:Nat)(q:List (Tm n))(z po pc:Nat)(B:Nat)(w:World)(L:Hid (q.length=4))(V:z<B)(K:∀(i:Nat)(y:Tm n),q[i]?=some y->dr w z (po+i*4) n y/\In B w n y)(H:∀y∈q,(av n y).length<=2097152)(C:B<=w.heap.size):ak 158 #[.slice (some ⟨z,po,none⟩) 4 pc] w λe w'=>e=.returned (.bool (q.all (AL n)))/\ai w w':=by
 go_enter Tryz.func158,Tryz.ntmps158;go_wp2_with fail;go_loopw [10] (λi wr=>∃k:Nat,k<=4/\i=ab k/\ai w wr/\Hid ((q.drop k).all (AL n)=q.all (AL n))) (λi _=>4-(intOf i).toNat)
 case atStart=>exact⟨0,by omega,rfl,am _ _,rfl⟩
 case round=>
  obtain⟨k,ad,rfl,c,l⟩:=hrel;by_cases U:k<4
  ·obtain⟨a,v⟩:∃a,q[k]?=some a:=⟨q[k]'(by rw[L.out];exact U),aE _⟩;have s:=ao (qj (AL n) q k a v);obtain⟨x,m⟩:=K k a v;have I:=H a (aG v);replace x:=x.below (c.mono C) V;replace m:=m.below (c.mono C);clear K v H;cases n with
   | zero=>exact x.elim
   | succ n=>
   obtain⟨X,Y,Z,aa⟩:=x;have t:B<=wr.heap.size:=ax C c.size
   have F:Hid (∀b,ai wr b->ak 51 #[.agg #[ab a.1.1,ab a.1.2.1,ae a.1.2.2,.slice a.2.1.1 a.2.2.length a.2.1.2]] b λe w'=>e=.returned (ab (bq (n+1) a))/\ai b w'):=
    λb j=>dB (n+1) a B b (m.below (j.mono t)) (ax t j.size) I
   have R:Hid (∀b,ai wr b->ak 52 #[.agg #[ab a.1.1,ab a.1.2.1,ae a.1.2.2,.slice a.2.1.1 a.2.2.length a.2.1.2]] b λe w'=>e=.returned (.bool (aH (n+1) a))/\ai b w'):=
    λb j=>im (n+1) a B b (m.below (j.mono t)) (ax t j.size)
   have r:Hid (AL (n+1) a=(bq (n+1) a==0 && (a.1.1==6 || aH (n+1) a))):=by unfold Hid AL;rw[fj];rfl
   clear m I;generalize a.2.2.length=ar at*;generalize aH (n+1) a=cl at*;generalize bq (n+1) a=h at*;generalize AL (n+1) a=ok at*;have af:(0:Int)<=(k:Int):=by omega
   have ag:(k:Int)<(4:Int):=by omega
   have ah:z<wr.heap.size:=by omega
   have E:Hid (∀o,ai wr (wr.alloc o)):=λo=>(am _ _).alloc (aj _) _;go_wp2_with fail;refine(F.out _ (E.out _)).mono ?_;rintro e b ⟨rfl,u⟩;obtain⟨⟨M,N,O,P⟩,_⟩:=DO u;have A:Hid (ai wr b):=(E.out _).trans (u.mono (by simp));have S:Hid (wr.heap.size<b.heap.size):=by have:=u.size;simp at this;unfold Hid;omega
   clear u X Y Z aa F;by_cases f:h=0
   ·have T:(h !=0)=false:=by simp[f]
    have g:Hid (h=0):=f;clear f;go_wp2_with fail;refine(iU _ _ _ _ _ _ _).mono ?_;rintro e Q ⟨rfl,D⟩;obtain⟨al,an,ap,aq⟩:=nt S.out D ⟨M,N,O,P⟩;have p:Hid (ai wr Q):=A.out.trans (D.mono A.out.size);clear D M N O P;cases G:a.1.1==6
    ·simp only[Bool.not_false];go_wp2_with fail;refine(R.out _ p.out).mono ?_;rintro e W ⟨rfl,J⟩;have d:ai w W:=c.trans ((p.out.trans (J.mono p.out.size)).mono c.size);clear J;cases cl with
     | true=>
      go_wp2_with fail;go_roundw
      case rel=>exact⟨k+1,by omega,by go_num,d,by rw[<-l.out,s.out,r.out,g.out];simp[Hid]⟩
      case measure=>simp[intOf];omega
     | false=>
      go_wp2_with fail
      go_ret
      exact⟨eG (by rw[<-l.out,s.out,r.out,g.out,G];simp),d⟩
    ·simp only[Bool.not_true];have d:ai w Q:=c.trans (p.out.mono c.size);go_wp2_with fail;go_roundw
     case rel=>exact⟨k+1,by omega,by go_num,d,by rw[<-l.out,s.out,r.out,g.out,G];simp[Hid]⟩
     case measure=>simp[intOf];omega
   ·have T:(h !=0)=true:=by simpa using f
    have g:Hid ((h==0)=false):=by simpa [Hid]using f
    have d:ai w b:=c.trans (A.out.mono c.size);clear f;go_wp2_with fail
    go_ret
    exact⟨eG (by rw[<-l.out,s.out,r.out,g.out];simp),d⟩
  ·go_wp2_with fail
   go_ret
   refine⟨eG ?_,c⟩;rw[<-l.out,gd (by rw[L.out];omega)];rfl
theorem zr(n:Nat)(q:List (Tm n))(a:Option Addr)(pc B:Nat)(w:World)(d:ft B w n q a)(i:q.length<=9223372036854775807)(g:∀y∈q,(av n y).length<=2097152)(f:B<=w.heap.size):ak 158 #[.slice a q.length pc] w λe w'=>e=.returned (.bool (fV n q))/\ai w w':=by
 unfold fV;by_cases c:q.length=4
 ·rcases d with d|⟨b,o,rfl,h,j⟩
  ·rw[d]at c;simp at c
  ·have k:=EM n q b o pc B w c h j g f;rw[c];simpa using k
 ·refine(Ku a q.length pc w i (by simp;omega)).mono ?_;rintro e w' ⟨rfl,rfl⟩;exact⟨by simp[c],am _ _⟩
def aN:(N:Nat)->(n:Nat)->Tm n->Tm N
 | 0,_,_=>()
 | _+1,0,_=>((0,0,.empty),(none,0),[])
 | N+1,n+1,x=>(x.1,x.2.1,x.2.2.map λy=>aN N n y)
theorem Lb(N n:Nat)(x:Tm (n+1)):fX (N+1) (aN (N+1) (n+1) x)=fX (n+1) x:=by simp[fX,bu,aN]
theorem wg(N n:Nat)(g:n<=N)(x:Tm n)(w:World)(b o:Nat)(k:dr w b o n x):dr w b o N (aN N n x):=by
 cases n with
 | zero=>exact k.elim
 | succ n=>
  obtain⟨N,rfl⟩:∃a,N=a+1:=⟨N-1,by omega⟩;obtain⟨c,d,e,f⟩:=k;exact⟨c,d,e,by simpa [aN]using f⟩
theorem og:(N n:Nat)->n<=N->(x:Tm n)->(B:Nat)->(w:World)->In B w n x->In B w N (aN N n x)
 | _,0,_,_,_,_,k=>k.elim
 | 0,n+1,h,_,_,_,_=>by omega
 | N+1,n+1,h,x,B,w,k=>by
  obtain⟨j,a⟩:=k;refine⟨by simpa [aN]using j,?_⟩;rcases a with a|⟨b,o,e,g,a⟩
  ·exact ag (by simp[aN,a])
  ·refine ah ⟨b,o,e,g,λi y d=>?_⟩;simp only[aN,dh]at d;obtain⟨c,f,rfl⟩:=cd.1 d;exact⟨wg N n (by omega) c w b _ (a i c f).1,og N n (by omega) c B w (a i c f).2⟩
theorem mJ:(N n:Nat)->n<=N->(x:Tm (n+1))->av (N+1) (aN (N+1) (n+1) x)=av (n+1) x
 | N,0,_,x=>by
  have:∀l:List (Tm 0),(l.map λy=>aN N 0 y).flatMap (λy=>av N y)=l.flatMap λy=>av 0 y:=by
   intro l
   induction l with
   | nil=>rfl
   | cons a l ih=>
    simp only[aI,bv,ih];congr 1;cases N with
    | zero=>rfl
    | succ N=>simp[aN,av]
  simp only[av,aN,eh,this]
 | 0,n+1,h,_=>by omega
 | N+1,n+1,h,x=>by
  have:∀l:List (Tm (n+1)),(l.map λy=>aN (N+1) (n+1) y).flatMap (λy=>av (N+1) y)=l.flatMap λy=>av (n+1) y:=by
   intro l
   induction l with
   | nil=>rfl
   | cons a l ih=>
    simp only[aI,bv,ih];rw[mJ N n (by omega) a]
  have b:av (N+2) (aN (N+2) (n+2) x)=(x.1,(x.2.1.1,(x.2.2.map λy=>aN (N+1) (n+1) y).length,x.2.1.2))::(x.2.2.map λy=>aN (N+1) (n+1) y).flatMap λy=>av (N+1) y:=rfl;rw[b,this];simp[av]
def mr(b:List An):Nat:=b.foldr (λa m=>max a.1 m) 0
theorem yP(b:List An):∀a∈b,a.1<=mr b:=by
 induction b with
 | nil=>intro a d;cases d
 | cons c b ih=>
  intro a d;simp only[mr,List.foldr_cons];rcases cB.1 d with rfl|d
  ·omega
  ·have:=ih a d;unfold mr at this;omega
def By(b:List An):List (Tm (mr b)):=b.map λa=>aN (mr b) a.1 a.2
theorem JT(b:List An)(i:Nat)(y:Tm (mr b))(c:(By b)[i]?=some y):∃a,b[i]?=some a/\a.1<=mr b/\y=aN (mr b) a.1 a.2:=by
 simp only[By,dh]at c;obtain⟨a,d,rfl⟩:=cd.1 c;exact⟨a,d,yP b a (aG d),rfl⟩
theorem JU{base g c B:Nat}{b:List An}{w:World}(e:mu base g c b w)(k:∀y∈b,EF B w y)(j:B<=w.heap.size):ft w.heap.size w (mr b) (By b) (some ⟨g,0,none⟩):=by
 refine ah ⟨g,0,rfl,e.lt.2,λa y m=>?_⟩;obtain⟨d,f,i,rfl⟩:=JT b a y m;have h:=k d (aG f);refine⟨?_,(og _ _ i _ _ _ h).mono j⟩;obtain⟨n,o⟩:=d;have l:=e.cells a _ f;cases n with
 | zero=>exact h.elim
 | succ n=>
  rw[cP];exact wg _ _ i o w g (a*4) l
theorem GW{b:List An}(f:∀y∈b,aA y/\y.1≠0):∀y∈By b,aA ⟨mr b,y⟩:=by
 intro y k;obtain⟨m,h⟩:=cJ k;obtain⟨e,g,i,rfl⟩:=JT b m y h;have j:=f e (aG g);obtain⟨n,o⟩:=e;cases n with
 | zero=>exact(j.2 rfl).elim
 | succ n=>
  intro p c;clear h k g f;generalize mr b=d at*;obtain⟨a,rfl⟩:∃a,d=a+1:=⟨d-1,by simp only at i;omega⟩;have l:=mJ a n (by simp only at i;omega) o;simp only at c;rw[l]at c;exact j.1 p c
theorem iB{c d:Type}(f:c->d->Bool):(p:List c)->(q:List d)->(x:c)->(y:d)->ay f p q=true->f x y=true->ay f (p++ [x]) (q++ [y])=true
 | [],[],x,y,_,h=>by simp[ay,h]
 | [],_::_,_,_,h,_=>by simp[ay]at h
 | _::_,[],_,_,h,_=>by simp[ay]at h
 | a::p,b::q,x,y,h,k=>by
  simp only[ay,aB,fG]at h ⊢;exact⟨h.1,iB f p q x y h.2 k⟩
theorem cw{c d:Type}(f:c->d->Bool):(p:List c)->(q:List d)->ay f p q=true->p.length=q.length
 | [],[],_=>rfl
 | [],_::_,h=>by simp[ay]at h
 | _::_,[],h=>by simp[ay]at h
 | a::p,b::q,h=>by
  simp only[ay,aB]at h;simp[cw f p q h.2]
def zA:An:=⟨1,((0,0,.empty),(none,0),[])⟩
theorem FK(n:Nat):(madeCells #[ab 0,ab 0,ae .empty,.slice none 0 0] (n*4)).toList=fL (List.replicate n zA):=by
 apply List.ext_getElem?;intro b;by_cases e:b<n*4
 ·obtain⟨k,a,f,rfl⟩:∃k a,a<4/\b=k*4+a:=⟨b / 4,b % 4,Nat.mod_lt _ (by decide),by omega⟩;have g:k<n:=by omega
  have c:(fL (List.replicate n zA))[k*4+a]?=(uF (sq zA))[a]? :=iw _ k (sq zA) (by simp[g]) a f;rw[c];have d:(madeCells #[ab 0,ab 0,ae .empty,.slice none 0 0] (n*4))[k*4+a]?=some ((#[ab 0,ab 0,ae .empty,.slice none 0 0]:Array Value)[(k*4+a) % 4]!):=by
   simp[madeCells,e]
  rw[lW,d,show (k*4+a) % 4=a by omega];have:a=0\/a=1\/a=2\/a=3:=by omega
  rcases this with rfl|rfl|rfl|rfl<;>rfl
 ·rw[eg (by simp[size_madeCells];omega),eg (by rw[kp];simp;omega)]
def tC(n:Nat)(p:List (Tm n))(len g k:Nat)(l:List (Tm n))(wr:World):Prop:=
 l.length=k/\mu g g len (l.map (λe=>(⟨n,e⟩:An))++List.replicate (len-k) zA) wr/\(∀a∈l,In wr.heap.size wr n a/\bZ (λd=>g<d) n a)/\ay (λc b=>aw n c n b) l (p.take k)=true
theorem tC.step{n:Nat}{p:List (Tm n)}{len g k:Nat}{l:List (Tm n)}{wr w1:World}(j:tC n p len g k l wr)(w:k<len)(x:Tm n)(u:p[k]?=some x)(c:ai wr w1)(y:Tm n)(v:In w1.heap.size w1 n y)(h:bZ (λq=>g<q) n y)(s:aw n y n x=true):tC n p len g (k+1) (l++ [y]) (iX w1 g (k*4) (fX n y)):=by
 obtain⟨e,m,b,o⟩:=j;have f:=(m.below c).put k ⟨n,y⟩ (by simp;omega);have i:(l.map (λx=>(⟨n,x⟩:An))++List.replicate (len-k) zA).set k ⟨n,y⟩=(l++ [y]).map (λx=>(⟨n,x⟩:An))++List.replicate (len-(k+1)) zA:=by
  rw[hU _ _ (by simp;omega)];have:len-k=(len-(k+1))+1:=by omega
  rw[this,List.replicate_succ];simp[e]
 rw[i]at f;refine⟨by simp[e],f,?_,?_⟩
 ·intro d a;have t:(iX w1 g (k*4) (fX n y)).heap.size=w1.heap.size:=bj _ _ _ _;rw[t];rcases da.1 a with a|a
  ·exact⟨In.off (λq r=>aT (by omega) _ _ _ _) (b d a).2 (((b d a).1.below c).mono c.size),(b d a).2⟩
  ·simp only[dD]at a;subst a;exact⟨In.off (λq r=>aT (by omega) _ _ _ _) h v,h⟩
 ·rw[dx,u];exact iB _ _ _ _ _ o s
def gA(n:Nat)(p:List (Tm n))(w w':World)(a:Option Addr)(c:Nat)(l:List (Tm n)):Prop:=
 ai w w'/\l.length=p.length/\l.length<=c/\c<=maxLen/\ay (λa b=>aw n a n b) l p=true/\
 (l=[]\/∃b o,a=some ⟨b,o,none⟩/\(w.heap.size<=b/\o=0/\(∀g,w'.frozen? ⟨b,g,none⟩=false)/\∀d∈l,bZ (λe=>e≠b) n d)/\b<w'.heap.size/\∀(f:Nat)(d:Tm n),l[f]?=some d->dr w' b (o+f*4) n d/\In w'.heap.size w' n d/\bZ (λe=>w.heap.size<=e) n d)
theorem tC.done{n:Nat}{p:List (Tm n)}{len k:Nat}{l:List (Tm n)}{w wr:World}(f:tC n p len w.heap.size k l wr)(u:p.length=len)(j:k=len)(g:ai w wr)(m:len<=maxLen):gA n p w wr (some ⟨w.heap.size,0,none⟩) len l:=by
 obtain⟨t,c,d,e⟩:=f;subst j;rw[bw (by omega)]at e;rw[gI,mj,ed]at c;refine⟨g,by omega,by omega,m,e,ah ⟨w.heap.size,0,rfl,⟨aj _,rfl,λr=>c.free r,λb a=>(d b a).2.mono λs o=>by omega⟩,c.lt.2,λq b a=>⟨?_,(d b (aG a)).1,(d b (aG a)).2.mono λs o=>by omega⟩⟩⟩;have h:=c.cells q ⟨n,b⟩ (by simp[a]);have i:=(d b (aG a)).1;cases n with
 | zero=>exact i.elim
 | succ n=>
  rw[cP];exact h
def Oe(n:Nat):Prop:=∀(x:Tm n)(B:Nat)(w:World),In B w n x->B<=w.heap.size->aA ⟨n,x⟩->
 ak 54 #[df n x] w λe w'=>∃y:Tm n,e=.returned (df n y)/\Hid (ai w w'/\In w'.heap.size w' n y/\bZ (λq=>w.heap.size<=q) n y/\aw n y n x=true)
theorem tN{s t:ByteArray}(b:(s.toList==t.toList)=true):s=t:=by
 have a:s.toList=t.toList:=by simpa using b
 rw[b8,b8]at a;cases s;cases t;simp only at a;rw[lX.1 a]
theorem bA{n m:Nat}{x:Tm (n+1)}{y:Tm (m+1)}(c:aw (n+1) x (m+1) y=true):x.1=y.1/\ay (λa b=>aw n a m b) x.2.2 y.2.2=true:=by
 simp only[aw,aB,bV]at c;obtain⟨⟨⟨d,e⟩,f⟩,g⟩:=c;refine⟨?_,g⟩;have h:=tN (s:=x.1.2.2) (t:=y.1.2.2) (by simpa using f);exact ia d (ia e h)
theorem cX{n m:Nat}{x:Tm (n+1)}{y:Tm (m+1)}(c:x.1=y.1)(k:ay (λa b=>aw n a m b) x.2.2 y.2.2=true):aw (n+1) x (m+1) y=true:=by
 simp only[aw,c,k];simp
theorem pO{c d:Type}(f:c->d->Bool)(g:d->c->Bool):(p:List c)->(q:List d)->(∀a∈p,∀b,f a b=true->g b a=true)->ay f p q=true->ay g q p=true
 | [],[],_,_=>rfl
 | [],_::_,_,h=>by simp[ay]at h
 | _::_,[],_,h=>by simp[ay]at h
 | a::p,b::q,hf,h=>by
  simp only[ay,aB]at h ⊢;exact⟨hf a (by simp) b h.1,pO f g p q (λe i=>hf e (bH _ i)) h.2⟩
theorem dq:(n:Nat)->(x:Tm n)->(m:Nat)->(y:Tm m)->aw n x m y=true->aw m y n x=true
 | 0,_,_,_,h=>by simp[aw]at h
 | _+1,_,0,_,h=>by simp[aw]at h
 | n+1,x,m+1,y,h=>by
  obtain⟨c,d⟩:=bA h;exact cX c.symm (pO _ _ _ _ (λa _ b e=>dq n a m b e) d)
theorem nK{d e i:Type}(f:d->e->Bool)(g:e->i->Bool)(k:d->i->Bool):(p:List d)->(q:List e)->(r:List i)->(∀a∈p,∀b c,f a b=true->g b c=true->k a c=true)->ay f p q=true->ay g q r=true->ay k p r=true
 | [],[],[],_,_,_=>rfl
 | [],[],_::_,_,_,h=>by simp[ay]at h
 | [],_::_,_,_,h,_=>by simp[ay]at h
 | _::_,[],_,_,h,_=>by simp[ay]at h
 | _::_,_::_,[],_,_,h=>by simp[ay]at h
 | a::p,b::q,c::r,hf,h1,h2=>by
  simp only[ay,aB]at h1 h2 ⊢;exact⟨hf a (by simp) b c h1.1 h2.1,nK f g k p q r (λj l=>hf j (bH _ l)) h1.2 h2.2⟩
theorem bD:(n:Nat)->(x:Tm n)->(m:Nat)->(y:Tm m)->(l:Nat)->(d:Tm l)->aw n x m y=true->aw m y l d=true->aw n x l d=true
 | 0,_,_,_,_,_,h,_=>by simp[aw]at h
 | _+1,_,0,_,_,_,h,_=>by simp[aw]at h
 | _+1,_,_+1,_,0,_,_,h=>by simp[aw]at h
 | n+1,x,m+1,y,l+1,d,h,k=>by
  obtain⟨e,f⟩:=bA h;obtain⟨j,o⟩:=bA k;exact cX (e.trans j) (nK _ _ _ _ _ _ (λa _ b c g i=>bD n a m b l c g i) f o)
theorem iA{b:Type}(f:b->b->Bool):(p:List b)->(∀a∈p,f a a=true)->ay f p p=true
 | [],_=>rfl
 | a::p,h=>by
  simp only[ay,aB];exact⟨h a (by simp),iA f p λc d=>h c (bH _ d)⟩
theorem fl:(n:Nat)->(x:Tm n)->aA ⟨n,x⟩->aw n x n x=true
 | 0,_,h=>(cZ h).elim
 | n+1,x,h=>cX rfl (iA _ _ λy a=>fl n y (aR n x y h a))
theorem aJ{n:Nat}{x:Tm n}:aA ⟨n,x⟩ ↔ bT n x=true:=by
 rw[kQ,b9];exact Iff.rfl
theorem KT{x:Int×Int×ByteArray}{a b:Option Addr}{l c d:Nat}:cq (x,(a,l,c))=cq (x,(b,l,d)):=rfl
theorem rO{c d:Type}(f:c->d->Bool)(g:c->Bool)(k:d->Bool):(p:List c)->(q:List d)->(∀a∈p,∀b,f a b=true->g a=k b)->ay f p q=true->p.all g=q.all k
 | [],[],_,_=>rfl
 | [],_::_,_,h=>by simp[ay]at h
 | _::_,[],_,h=>by simp[ay]at h
 | a::p,b::q,hf,h=>by
  simp only[ay,aB]at h;simp only[iK,hf a (by simp) b h.1,rO f g k p q (λe i=>hf e (bH _ i)) h.2]
theorem jQ{c d e:Type}(f:c->d->Bool)(g:c->e)(k:d->e):(p:List c)->(q:List d)->(∀a∈p,∀b,f a b=true->g a=k b)->ay f p q=true->p.map g=q.map k
 | [],[],_,_=>rfl
 | [],_::_,_,h=>by simp[ay]at h
 | _::_,[],_,h=>by simp[ay]at h
 | a::p,b::q,hf,h=>by
  simp only[ay,aB]at h;simp only[aI,hf a (by simp) b h.1,jQ f g k p q (λi j=>hf i (bH _ j)) h.2]
theorem ud{b:Type}(g:b->Int):(p:List b)->(i:Int)->p.foldl (λm y=>max m (g y)) i=(p.map g).foldl max i
 | [],_=>rfl
 | a::p,i=>by simp only[ge,aI];exact ud g p _
theorem cr:(n:Nat)->(x:Tm n)->(m:Nat)->(y:Tm m)->aw n x m y=true->aH n x=aH m y
 | 0,_,_,_,h=>by simp[aw]at h
 | _+1,_,0,_,h=>by simp[aw]at h
 | n+1,x,m+1,y,h=>by
  obtain⟨c,d⟩:=bA h;simp only[aH,c];rw[rO _ _ _ _ _ (λa _ b e=>cr n a m b e) d]
theorem ja:(n:Nat)->(x:Tm n)->(m:Nat)->(y:Tm m)->aw n x m y=true->bT n x=bT m y
 | 0,_,_,_,h=>by simp[aw]at h
 | _+1,_,0,_,h=>by simp[aw]at h
 | n+1,x,m+1,y,h=>by
  obtain⟨a,c⟩:=bA h;have e:cq (bu n x)=cq (bu m y):=by
   have g:=cw _ _ _ c;unfold bu;rw[a,g];exact KT
  simp only[bT,e,a];rw[rO _ _ _ _ _ (λd _ b f=>ja n d m b f) c]
theorem kY:(n:Nat)->(x:Tm n)->(m:Nat)->(y:Tm m)->aw n x m y=true->sz n x=sz m y
 | 0,_,_,_,h=>by simp[aw]at h
 | _+1,_,0,_,h=>by simp[aw]at h
 | n+1,x,m+1,y,h=>by
  obtain⟨c,d⟩:=bA h;simp only[sz,c];rw[jQ _ (λy=>1+sz n y) (λy=>1+sz m y) _ _ (λa _ b e=>by rw[kY n a m b e]) d]
theorem A8:(n:Nat)->(x:Tm n)->(m:Nat)->(y:Tm m)->aw n x m y=true->fm n x=fm m y
 | 0,_,_,_,h=>by simp[aw]at h
 | _+1,_,0,_,h=>by simp[aw]at h
 | n+1,x,m+1,y,h=>by
  obtain⟨c,d⟩:=bA h;simp only[fm,c];rw[ud (λy=>fm n y),ud (λy=>fm m y),jQ _ (λy=>fm n y) (λy=>fm m y) _ _ (λa _ b e=>A8 n a m b e) d]
theorem bL{n m:Nat}{x:Tm n}{y:Tm m}(a:aw n x m y=true):bq n x=bq m y:=by
 rw[<-fZ,<-fZ];unfold vH;rw[ja n x m y a,kY n x m y a,A8 n x m y a]
theorem jR{n m:Nat}{x:Tm n}{y:Tm m}(a:aw n x m y=true):bN ⟨n,x⟩=bN ⟨m,y⟩:=by
 cases n with
 | zero=>simp[aw]at a
 | succ n=>
  cases m with
  | zero=>simp[aw]at a
  | succ m=>
   have:=(bA a).1;simp only[bN,this]
theorem iZ{c d:Type}(f:c->d->Bool):(p:List c)->(q:List d)->ay f p q=true->∀(i:Nat)(a:c)(b:d),p[i]?=some a->q[i]?=some b->f a b=true
 | [],_,_,i,a,b,ha,_=>by simp at ha
 | _::_,[],h,_,_,_,_,_=>by simp[ay]at h
 | a::p,b::q,h,0,a',b',ha,hb=>by
  simp only[ay,aB]at h;simp at ha hb;subst ha hb;exact h.1
 | a::p,b::q,h,i+1,a',b',ha,hb=>by
  simp only[ay,aB]at h;exact iZ f p q h.2 i a' b' (by simpa using ha) (by simpa using hb)
theorem iz{b c:Type}(f:c->b->Bool)(g:b->c):(p:List b)->(∀a∈p,f (g a) a=true)->ay f (p.map g) p=true
 | [],_=>rfl
 | a::p,h=>by
  simp only[aI,ay,aB];exact⟨h a (by simp),iz f g p λd e=>h d (bH _ e)⟩
theorem fk:(N n:Nat)->n<=N->(x:Tm n)->aA ⟨n,x⟩->aw N (aN N n x) n x=true
 | _,0,_,_,h=>(cZ h).elim
 | 0,n+1,h,_,_=>by omega
 | N+1,n+1,h,x,hr=>cX rfl (iz _ _ _ λy a=>fk N n (by omega) y (aR n x y hr a))
end Go.Proofs.YtckamaoibonjcaaGreat
