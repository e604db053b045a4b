/- Proved here: plain facts and contracts. No condition but what each names. -/
import Derived.Test.YtmmahddlcldmiaaGreatJ17
namespace Go.Proofs.YtmmahddlcldmiaaGreat
open Go.RowKit Tryz
set_option maxHeartbeats 4000000
set_option maxRecDepth 100000
theorem iR(s:ap)(w:ag):am 101 #[af s] w λe w'=>e=.returned (.agg #[ab 2,ab 0,af s,ae none 0 0])/\w'=w.alloc (.cells #[ab 2,ab 0,af s,ae none 0 0] 31):=by
 go_enter func101,ntmps101;go_wp2_with fail;exact az (v:=.agg #[ab 2,ab 0,af s,ae none 0 0]) (by simp[results,results101,go_sem]) rfl ⟨rfl,rfl⟩
theorem fS(a:aw)(l c:Nat)(w:ag):am 103 #[ae a l c] w λe w'=>e=.returned (.agg #[ab 4,ab 0,af ⟨#[]⟩,ae a l c])/\w'=w.alloc (.cells #[ab 4,ab 0,af ⟨#[]⟩,ae a l c] 31):=by
 go_enter func103,ntmps103;go_wp2_with fail;exact az (v:=.agg #[ab 4,ab 0,af ⟨#[]⟩,ae a l c]) (by simp[results,results103,go_sem]) rfl ⟨rfl,rfl⟩
def iO(B N:Nat)(c:Tm N)(w:ag)(e:Ending)(w':ag):Prop:=
 ∃a:Tm N,e=.returned (dw N a)/\Hid (ak w w'/\In w'.heap.size w' N a/\cr (λb=>b<B\/w.heap.size<=b) N a/\aB N a N c=true)
abbrev ey(n B base:Nat)(xs:List (Tm n))(v:av)(w0 wr:ag):Prop:=ft (λB w x=>In B w n x) (λP x=>cr P n x) (iy n) 4 31 B base xs v w0 wr
theorem pi(n:Nat)(x:Tm n):(iy n x).length=4:=rfl
theorem il(s:ap)(N:Nat)(a:s.size<=maxLen)(B:Nat)(w:ag):In B w (N+1) (bq s N):=⟨⟨by simp[bq,dC],by simp[bq,dC],a,by simp[bq],by simp[bq]⟩,ai rfl⟩
theorem Bq(k u:Int)(N:Nat)(a:dC k)(b:dC u)(B:Nat)(w:ag):In B w (N+1) (bT k u N):=⟨⟨a,b,aL _,by simp[bT],by simp[bT]⟩,ai rfl⟩
theorem oM(s:ap)(N:Nat)(P:aR):cr P (N+1) (bq s N):=ai rfl
variable{cs:Array av}{room:Int}{ps vs ws:List Wd}{nm:List ap}{xs:List av}{a B L N b base c g k m n q r xc:Nat}{d e f o:Obj}{t:TypeId}{M Mh:aR}{h W w w' w0 w1 w4 wr:ag}{v v0 v1 v2 v3:av}{ma xa:aw}
theorem Fg{o:Nat}{x:Tm n}(c:In B w0 n x)(a:∀(j:Nat)(u:av),(iy n x)[j]?=some u->w.cell? ⟨b,o+j,none⟩=some u):dH w b o n x:=by
 cases n with
 | zero=>exact c.elim
 | succ n=>exact⟨a 0 _ rfl,a 1 _ rfl,a 2 _ rfl,a 3 _ rfl⟩
theorem ey.tells{xs ys:List (Tm N)}(p:ey N B base xs v w0 wr)(x:w.heap.size<=base)(s:aG (λa b=>aB N a N b) xs ys=true)(u:∀b,b<B\/base<=b->b<wr.heap.size->w'.heap[b]?=wr.heap[b]?)(t:wr.heap.size<=w'.heap.size)(g:ak w w'):∃a c,v=ae a xs.length c/\iO B (N+1) (dl N ys) w (.returned (.agg #[ab 4,ab 0,af ⟨#[]⟩,ae a xs.length c])) w':=by
 have j:=ei N;obtain⟨a,c,f,m,n,e⟩:=p.lay j (pi N);refine⟨a,c,f,((4,0,.empty),(a,c),xs),rfl,g,⟨⟨by simp[dC],by simp[dC],aL _,m.1,m.2⟩,?_⟩,?_,dh rfl s⟩
 ·have q:=(cN j 4 (iy N) a).2.1 _ _ _ _ e n;have r:=(cN j 4 (iy N) a).2.2.1 _ _ wr w' _ (λb l=>u b l.1 l.2) q n;have d:=(cN j 4 (iy N) a).2.2.2.1 _ _ _ _ t r;rcases d with d|⟨b,o,f,g,d⟩
  ·exact ai d
  ·exact aj ⟨b,o,f,g,λk i h=>⟨Fg (d k i h).2 (d k i h).1,(d k i h).2⟩⟩
 ·rcases e with e|⟨b,o,f,g,e⟩
  ·exact ai e
  ·exact aj ⟨b,o,f,by omega,λk i h=>(e i (aN h)).mono λb g=>by omega⟩
theorem ph(xs:List (Tm N))(a:ak w w1)(r:g=w1.heap.size)(p:L=xs.length)(e:Below (w1.alloc (.cells cs 31)).heap.size (w1.alloc (.cells cs 31)) w')(q:cs.toList=xs.flatMap (iy N))(u:xs.length<=8)(i:B<=w.heap.size)(f:∀y∈xs,In B w N y):iO B (N+1) (dl N xs) w (.returned (.agg #[ab 4,ab 0,af ⟨#[]⟩,ae (some ⟨g,0,none⟩) L L])) w':=by
 have o:=ft.lit (T:=31) (k:=4) (B:=B) (base:=w1.heap.size) (ei N) xs (w0:=w1) q (pi N) (by unfold maxLen;omega) (ao _) (aq _ _) (λy d=>⟨((f y d).below (a.mono i)).mono (aD i a.size),(oU (f y d)).mono λb h=>ai h⟩);have j:ak w (w1.alloc (.cells cs 31)):=a.trans (((aq _ _).alloc (ao _) _).mono a.size);obtain⟨s,c,l,k⟩:=ey.tells o a.size (je _ _ λy d=>lQ (f y d)) (λb _ h=>e.block b h) e.size (j.trans (e.mono j.size));injection l with m t n;subst m n p r;exact k
theorem gW:ak w (((w.alloc d).alloc e).alloc f)/\w.heap.size+1+1+1=(((w.alloc d).alloc e).alloc f).heap.size:=
 ⟨(((aq _ _).alloc (ao _) _).alloc (by simp) _).alloc (by simp;omega) _,by simp⟩
theorem tf{a:Obj}:ak w ((((w.alloc d).alloc e).alloc f).alloc a)/\w.heap.size+1+1+1+1=((((w.alloc d).alloc e).alloc f).alloc a).heap.size:=
 ⟨((((aq _ _).alloc (ao _) _).alloc (by simp) _).alloc (by simp;omega) _).alloc (by simp;omega) _,by simp⟩
theorem vF:ak w (w.alloc o).drew:=((aq _ _).alloc (ao _) _).drew
theorem aV:ak w (w.alloc o):=(aq _ _).alloc (ao _) _
theorem nM(s:ap)(a:s.size<=8):s.size<=maxLen:=by unfold maxLen;omega
theorem Ab(n:Nat)(t x:Tm (n+1))(s:ap)(v:Int)(B:Nat)(w:ag)(b:In B w (n+1) t)(c:In B w (n+1) x)(h:B<=w.heap.size):am 180 #[.agg #[ab 1,ab t.1.1,ab t.1.2.1,af t.1.2.2,ae t.2.1.1 t.2.2.length t.2.1.2,ab x.1.1,ab x.1.2.1,af x.1.2.2,ae x.2.1.1 x.2.2.length x.2.1.2,af s,ab v]] w (iO B (n+2) (dl (n+1) [bq mR n,t,x]) w):=by
 have f:Hid (∀e∈[bq mR n,t,x],In B w (n+1) e):=λe d=>by
  simp only[cv,gF,gJ]at d;rcases d with rfl|rfl|rfl
  ·exact il _ _ (nM _ (by decide)) _ _
  ·exact b
  ·exact c
 clear b c;go_enter func180,ntmps180;go_wp2_with fail
 go_region_held3 (λa=>(a.cell? ⟨w.heap.size,1,none⟩=some (ab t.1.1)/\a.cell? ⟨w.heap.size,2,none⟩=some (ab t.1.2.1)/\a.cell? ⟨w.heap.size,3,none⟩=some (af t.1.2.2)/\a.cell? ⟨w.heap.size,4,none⟩=some (ae t.2.1.1 t.2.2.length t.2.1.2))/\
     (a.cell? ⟨w.heap.size,5,none⟩=some (ab x.1.1)/\a.cell? ⟨w.heap.size,6,none⟩=some (ab x.1.2.1)/\a.cell? ⟨w.heap.size,7,none⟩=some (af x.1.2.2)/\a.cell? ⟨w.heap.size,8,none⟩=some (ae x.2.1.1 x.2.2.length x.2.1.2))) (first|(go_keep;done)|(simp[go_sem];done))
  ((first|(go_at_call 101;refine(iR _ _).mono ?_;rintro g i ⟨rfl,rfl⟩)|(go_at_call 103;refine(fS _ _ _ _).mono ?_;rintro g i ⟨rfl,rfl⟩)))
 go_wp2_with fail;exact az (v:=.agg #[ab 4,ab 0,af ⟨#[]⟩,ae (some ⟨w.heap.size+1+1+1,0,none⟩) 3 3]) (by simp[results,results180,go_sem]) rfl (ph [bq mR n,t,x] gW.1 gW.2 rfl vF rfl (by simp) h f)
theorem Aa(n:Nat)(t x:Tm (n+1))(s:ap)(v:Int)(B:Nat)(w:ag)(b:In B w (n+1) t)(g:B<=w.heap.size):am 180 #[.agg #[ab 3,ab t.1.1,ab t.1.2.1,af t.1.2.2,ae t.2.1.1 t.2.2.length t.2.1.2,ab x.1.1,ab x.1.2.1,af x.1.2.2,ae x.2.1.1 x.2.2.length x.2.1.2,af s,ab v]] w (iO B (n+2) (dl (n+1) [bq mQ n,t]) w):=by
 have e:Hid (∀d∈[bq mQ n,t],In B w (n+1) d):=λd c=>by
  simp only[cv,gF,gJ]at c;rcases c with rfl|rfl
  ·exact il _ _ (nM _ (by decide)) _ _
  ·exact b
 clear b;go_enter func180,ntmps180;go_wp2_with fail
 go_region_held3 (λa=>a.cell? ⟨w.heap.size,1,none⟩=some (ab t.1.1)/\a.cell? ⟨w.heap.size,2,none⟩=some (ab t.1.2.1)/\a.cell? ⟨w.heap.size,3,none⟩=some (af t.1.2.2)/\a.cell? ⟨w.heap.size,4,none⟩=some (ae t.2.1.1 t.2.2.length t.2.1.2)) (first|(go_keep;done)|(simp[go_sem];done))
  ((first|(go_at_call 101;refine(iR _ _).mono ?_;rintro f h ⟨rfl,rfl⟩)|(go_at_call 103;refine(fS _ _ _ _).mono ?_;rintro f h ⟨rfl,rfl⟩)))
 go_wp2_with fail;exact az (v:=.agg #[ab 4,ab 0,af ⟨#[]⟩,ae (some ⟨w.heap.size+1+1+1,0,none⟩) 2 2]) (by simp[results,results180,go_sem]) rfl (ph [bq mQ n,t] gW.1 gW.2 rfl vF rfl (by simp) g e)
theorem Ad(n:Nat)(K:Int)(g:(K==1)=false)(h:(K==2)=false)(i:(K==3)=false)(t x:Tm (n+1))(s:ap)(v:Int)(B:Nat)(w:ag)(e:B<=w.heap.size):am 180 #[.agg #[ab K,ab t.1.1,ab t.1.2.1,af t.1.2.2,ae t.2.1.1 t.2.2.length t.2.1.2,ab x.1.1,ab x.1.2.1,af x.1.2.2,ae x.2.1.1 x.2.2.length x.2.1.2,af s,ab v]] w (iO B (n+2) (dl (n+1) [bq lW n]) w):=by
 have c:Hid (∀b∈[bq lW n],In B w (n+1) b):=λb a=>by
  simp only[cv,gF,gJ]at a;subst a;exact il _ _ (nM _ (by decide)) _ _
 go_enter func180,ntmps180;go_wp2_with (first|(go_at_call 101;refine(iR _ _).mono ?_;rintro d f ⟨rfl,rfl⟩)|(go_at_call 103;refine(fS _ _ _ _).mono ?_;rintro d f ⟨rfl,rfl⟩));exact az (v:=.agg #[ab 4,ab 0,af ⟨#[]⟩,ae (some ⟨w.heap.size+1+1+1,0,none⟩) 1 1]) (by simp[results,results180,go_sem]) rfl (ph [bq lW n] gW.1 gW.2 rfl aV rfl (by simp) e c)
theorem wY(n:Nat)(t x:Tm (n+1))(s:ap)(v:Int)(c:dC v)(b:s.size<=maxLen)(B:Nat)(w:ag)(d:In B w (n+1) x)(i:B<=w.heap.size):am 180 #[.agg #[ab 2,ab t.1.1,ab t.1.2.1,af t.1.2.2,ae t.2.1.1 t.2.2.length t.2.1.2,ab x.1.1,ab x.1.2.1,af x.1.2.2,ae x.2.1.1 x.2.2.length x.2.1.2,af s,ab v]] w (iO B (n+2) (dl (n+1) [bq jj n,bq s n,x,bT 5 v n]) w):=by
 have g:Hid (∀f∈[bq jj n,bq s n,x,bT 5 v n],In B w (n+1) f):=λf e=>by
  simp only[cv,gF,gJ]at e;rcases e with rfl|rfl|rfl|rfl
  ·exact il _ _ (nM _ (by decide)) _ _
  ·exact il _ _ b _ _
  ·exact d
  ·exact Bq _ _ _ (by simp[dC]) c _ _
 clear d b c;go_enter func180,ntmps180;go_wp2_with fail
 go_region_held3 (λa=>(a.cell? ⟨w.heap.size,9,none⟩=some (af s)/\a.cell? ⟨w.heap.size,10,none⟩=some (ab v))/\
     (a.cell? ⟨w.heap.size,5,none⟩=some (ab x.1.1)/\a.cell? ⟨w.heap.size,6,none⟩=some (ab x.1.2.1)/\a.cell? ⟨w.heap.size,7,none⟩=some (af x.1.2.2)/\a.cell? ⟨w.heap.size,8,none⟩=some (ae x.2.1.1 x.2.2.length x.2.1.2))) (first|(go_keep;done)|(simp[go_sem];done))
  ((first|(go_at_call 101;refine(iR _ _).mono ?_;rintro h j ⟨rfl,rfl⟩)|(go_at_call 103;refine(fS _ _ _ _).mono ?_;rintro h j ⟨rfl,rfl⟩)))
 all_goals go_wp2_with fail
 all_goals exact az (v:=.agg #[ab 4,ab 0,af ⟨#[]⟩,ae (some ⟨w.heap.size+1+1+1+1,0,none⟩) 4 4]) (by simp[results,results180,go_sem]) rfl (ph [bq jj n,bq s n,x,bT 5 v n] tf.1 tf.2 rfl vF rfl (by simp) i g)
theorem Cv(n:Nat)(a:Ac (n+1))(B:Nat)(w:ag)(o:iJ (n+1) B w a)(c:B<=w.heap.size):am 180 #[.agg (gi (n+1) a).toArray] w (iO B (n+2) (cq n a) w):=by
 obtain⟨b,⟨t,f⟩,d,e⟩:=a;obtain⟨p,j,k,l,m⟩:=o;unfold cq;by_cases g:b=1
 ·subst g;exact Ab n t f d e B w j k c
 by_cases h:b=2
 ·subst h;exact wY n t f d e m l B w k c
 by_cases i:b=3
 ·subst i;exact Aa n t f d e B w j c
 ·simp only[g,h,i,if_false];exact Ad n b (by simpa using g) (by simpa using h) (by simpa using i) t f d e B w c
theorem Ev(xs ys:List (Tm N))(m:base<=w1.heap.size)(p:g=w1.heap.size)(i:L=xs.length)(n:w.heap.size<=base)(s:∀b,b<B\/base<=b->b<(w1.alloc (.cells cs 31)).heap.size->w'.heap[b]?=(w1.alloc (.cells cs 31)).heap[b]?)(r:(w1.alloc (.cells cs 31)).heap.size<=w'.heap.size)(l:ak w w')(o:cs.toList=xs.flatMap (iy N))(u:xs.length<=8)(j:∀y∈xs,In w1.heap.size w1 N y/\cr (λb=>b<B\/base<=b) N y)(q:aG (λa b=>aB N a N b) xs ys=true):iO B (N+1) (dl N ys) w (.returned (.agg #[ab 4,ab 0,af ⟨#[]⟩,ae (some ⟨g,0,none⟩) L L])) w':=by
 have h:=ft.lit (T:=31) (k:=4) (B:=B) (base:=base) (ei N) xs (w0:=w1) o (pi N) (by unfold maxLen;omega) m (aq _ _) j;obtain⟨a,c,d,k⟩:=ey.tells h n q s r l;injection d with e t f;subst e f i p;exact k
theorem ey.slice{xs:List (Tm N)}(b:ey N B base xs v w0 wr):∃a c,v=ae a xs.length c:=by
 rcases b.2.1.2 with⟨rfl,d⟩|⟨f,cap,e,rfl,_⟩
 ·exact⟨none,0,by rw[d]⟩
 ·exact⟨_,_,rfl⟩
theorem um(N:Nat)(x:Tm N):∀u∈iy N x,u.oneCell'=true:=by
 intro u a;simp[iy,vA]at a;rcases a with rfl|rfl|rfl|rfl<;>rfl
theorem Ae(w:ag)(x:Nd)(c:g=w.heap.size):∀j u,(vA x)[j]?=some u->(w.alloc (.cells #[ab x.1.1,ab x.1.2.1,af x.1.2.2,ae x.2.1 x.2.2.1 x.2.2.2] 31)).cell? ((⟨g,0,none⟩:Addr).add j)=some u:=by
 subst c;intro j u a;rw[fu];have:j<4:=(aX.1 a).1;have b:j=0\/j=1\/j=2\/j=3:=by omega
 rcases b with rfl|rfl|rfl|rfl<;>simp[vA]at a<;>subst a<;>simp[go_sem]
theorem ey.app{xs:List (Tm N)}(f:ey N B base xs v w0 wr)(q:xs.length=k)(i:B<=base)(n:base<=wr.heap.size)(e:ak wr h)(a:Tm N)(l:In h.heap.size h N a)(j:cr (λb=>b<B\/wr.heap.size<=b) N a)(r:w4.ownsRow base 31 4 (ae (some ⟨g,0,none⟩) (k+1) c) (k+1) (xs.flatMap (iy N)++iy N a))(p:(h.alloc o).grownBy w4 v.ownBlock)(m:v.ownBlock=some g\/g=h.heap.size+1):ey N B base (xs++ [a]) (ae (some ⟨g,0,none⟩) (k+1) c) w0 w4:=by
 subst q;have d:ak h (h.alloc o):=(aq _ _).alloc (ao _) _;exact ft.step (ei N) f i n (e.trans (d.mono e.size)) a ((l.below d).mono d.size) j r p (by simpa using m)
theorem ey.own{xs:List (Tm N)}(b:ey N B base xs v w0 wr)(c:xs.length=k)(a:ak wr h)(o:Obj):(h.alloc o).ownsRow base 31 4 v k (xs.flatMap (iy N)):=by
 subst c;exact dY b.2.1 (a.trans (((aq _ _).alloc (ao _) _).mono a.size))
theorem gL(w:ag)(o:Obj)(a:b<w.heap.size):(w.alloc o).heap[b]?=w.heap[b]? :=(cX w o none).block b a (by simp)
theorem ay(a:w.heap[q]?=some (.cells cs t))(j:Nat):w.cell? ⟨q,j,none⟩=cs[j]? :=by simp[World.cell?,a]
theorem dc(a:w.heap[q]?=some (.cells cs t))(j:Nat):w.frozen? ⟨q,j,none⟩=false:=by simp[World.frozen?,a]
theorem kw(w:ag)(a c:Obj):((w.alloc a).alloc c).heap[w.heap.size]?=some a/\((w.alloc a).alloc c).heap[w.heap.size+1]?=some c:=by
 have f:=(gL (w.alloc a) c (b:=w.heap.size) (by simp)).trans (aF w a);have d:=aF (w.alloc a) c;have e:(w.alloc a).heap.size=w.heap.size+1:=by simp
 rw[e]at d;exact⟨f,d⟩
theorem zH{o:Nat}(d:B<=r)(e:r<base)(a:ak W w):∀b,b<B\/base<=b->b<W.heap.size->(di w r o v0 v1 v2 v3).heap[b]?=W.heap[b]? :=λb f c=>(bj (by omega) _ _ _ _).trans (a.block b c)
theorem dO{o:Nat}(a:ak w W)(d:w.heap.size<=r):ak w (di W r o v0 v1 v2 v3):=
 ⟨a.os,a.tape,a.output,aD a.size (dF (bA _ _ _ _).symm),λb c=>(bj (by omega) _ _ _ _).trans (a.block b c)⟩
theorem ey.tup{xs:List (Tm N)}{l:aw}(q:ey N B base xs (ae l k a) w0 wr):In wr.heap.size wr (N+1) ((4,0,.empty),(l,a),xs)/\cr (λb=>b<B\/base<=b) (N+1) ((4,0,.empty),(l,a),xs):=by
 obtain⟨s,c,d,m,r,f⟩:=q.lay (ei N) (pi N);injection d with n t p;subst n p;refine⟨⟨⟨by simp[dC],by simp[dC],aL _,m.1,m.2⟩,?_⟩,?_⟩
 ·rcases r with e|⟨b,o,d,j,e⟩
  ·exact ai e
  ·exact aj ⟨b,o,d,j,λi h g=>⟨Fg (e i h g).2 (e i h g).1,(e i h g).2⟩⟩
 ·rcases f with f|⟨b,o,d,j,f⟩
  ·exact ai f
  ·exact aj ⟨b,o,d,j,λi h g=>f h (aN g)⟩
theorem yU{s m x:Tm (n+1)}{c:Tm (n+3)}{ys:List (Tm (n+2))}(k:B<=w.heap.size)(p:In B w (n+1) s)(o:In B w (n+1) m)(q:In B w (n+1) x)(l:ak w wr)(j:In wr.heap.size wr (n+3) c/\cr (λb=>b<B\/base<=b) (n+3) c)(u:aB (n+3) c (n+3) (dl (n+2) ys)=true)(g:ak wr w1):(∀y∈[bq LB (n+2),aY (n+3) (n+1) s,aY (n+3) (n+1) m,c,aY (n+3) (n+1) x],In w1.heap.size w1 (n+3) y/\cr (λb=>b<B\/base<=b) (n+3) y)/\ aG (λa b=>aB (n+3) a (n+3) b) [bq LB (n+2),aY (n+3) (n+1) s,aY (n+3) (n+1) m,c,aY (n+3) (n+1) x] [bq LB (n+2),aY (n+3) (n+1) s,aY (n+3) (n+1) m,dl (n+2) ys,aY (n+3) (n+1) x]=true:=by
 have e:∀t:Tm (n+1),In B w (n+1) t->In w1.heap.size w1 (n+3) (aY (n+3) (n+1) t)/\cr (λb=>b<B\/base<=b) (n+3) (aY (n+3) (n+1) t):=λt h=>by
  have i:=oX (n+3) (n+1) (by omega) t B w h;have d:=l.trans (g.mono l.size);exact⟨(i.below (d.mono k)).mono (aD k d.size),(oU i).mono λb d=>ai d⟩
 have f:∀t:Tm (n+1),In B w (n+1) t->aB (n+3) (aY (n+3) (n+1) t) (n+3) (aY (n+3) (n+1) t)=true:=λt h=>lQ (oX (n+3) (n+1) (by omega) t B w h);refine⟨λy r=>?_,by simp only[aG,f s p,f m o,f x q,u,dZ,iA]⟩;simp only[cv,gF,gJ]at r;rcases r with rfl|rfl|rfl|rfl|rfl
 ·exact⟨il _ _ (nM _ (by decide)) _ _,oM _ _ _⟩
 ·exact e s p
 ·exact e m o
 ·exact⟨(j.1.below g).mono g.size,j.2⟩
 ·exact e x q
theorem gA(N n:Nat)(x:Tm (n+1)):iy (N+1) (aY (N+1) (n+1) x)=iy (n+1) x:=by
 unfold iy;rw[MA]
theorem yT(n:Nat)(s m x:Tm (n+1))(a:aw)(b k:Nat)(xs:List (Tm (n+2)))(c:xs.length=k):[ab 2,ab 0,af ⟨#[111,110]⟩,ae none 0 0,ab s.1.1,ab s.1.2.1,af s.1.2.2,ae s.2.1.1 s.2.2.length s.2.1.2,ab m.1.1,ab m.1.2.1,af m.1.2.2,ae m.2.1.1 m.2.2.length m.2.1.2,ab 4,ab 0,af ⟨#[]⟩,ae a k b,ab x.1.1,ab x.1.2.1,af x.1.2.2,ae x.2.1.1 x.2.2.length x.2.1.2]=
     List.flatMap (iy (n+3)) [bq LB (n+2),aY (n+3) (n+1) s,aY (n+3) (n+1) m,((4,0,.empty),(a,b),xs),aY (n+3) (n+1) x]:=by
 show _=iy (n+3) (bq LB (n+2))++(iy (n+3) (aY (n+3) (n+1) s)++(iy (n+3) (aY (n+3) (n+1) m)++(iy (n+3) ((4,0,.empty),(a,b),xs)++(iy (n+3) (aY (n+3) (n+1) x)++ []))));rw[gA,gA,gA,<-c];rfl
theorem mf{a β:Type}(f:a->β)(p:List a)(k:Nat)(x:a)(b:p[k]?=some x):(p.take (k+1)).map f=(p.take k).map f++ [f x]:=by
 rw[dz,b];simp
def Qa(n B:Nat)(p:List (Ac (n+1)))(w0:ag)(base k:Nat)(v:av)(wr:ag):Prop:=
 ∃a,a.length=k/\ey (n+2) B base a v w0 wr/\aG (λc b=>aB (n+2) c (n+2) b) a ((p.take k).map (cq n))=true
theorem tW(n:Nat)(s m x:Tm (n+1))(p:List (Ac (n+1)))(len:Nat)(aH:Hid (p.length=len))(bD:len<=8)(a:aw)(pc:Nat)(B:Nat)(w:ag)(bk:Hid (In B w (n+1) s))(bg:Hid (In B w (n+1) m))(bl:Hid (In B w (n+1) x))(bi:Hid (qi B w 11 (gi (n+1)) (iJ (n+1) B w) a p))(al:B<=w.heap.size)(ad:Tm (n+4))(ba:Hid (ad=dJ n ((s,m,x),(a,pc),p))):am 142 #[.agg #[ab s.1.1,ab s.1.2.1,af s.1.2.2,ae s.2.1.1 s.2.2.length s.2.1.2,ab m.1.1,ab m.1.2.1,af m.1.2.2,ae m.2.1.1 m.2.2.length m.2.1.2,ae a len pc,ab x.1.1,ab x.1.2.1,af x.1.2.2,ae x.2.1.1 x.2.2.length x.2.1.2]] w (iO B (n+4) ad w):=by
 obtain⟨bm,aE,aI,aJ,aK⟩:=bW gw;have G:=au (⟨aE,aI,aJ,aK⟩:_/\_/\_/\_);clear aE aI aJ aK;go_enter func142,ntmps142;go_wp2_with fail;have F:=au (kw w (.cells #[ab s.1.1,ab s.1.2.1,af s.1.2.2,ae s.2.1.1 s.2.2.length s.2.1.2,ab m.1.1,ab m.1.2.1,af m.1.2.2,ae m.2.1.1 m.2.2.length m.2.1.2,ae a len pc,ab x.1.1,ab x.1.2.1,af x.1.2.2,ae x.2.1.1 x.2.2.length x.2.1.2] 162) (.cells #[ab 0,ab 0,af ⟨#[]⟩,ae none 0 0] 31));generalize R:(w.alloc _).alloc _=z;rw[R]at F;have J:Hid (ak w z/\z.heap.size=w.heap.size+2):=by
  subst R;exact⟨((aq _ _).alloc (ao _) _).alloc (by simp) _,by simp⟩
 have V:Hid (∀wr,Below (w.heap.size+2) z wr->ak w wr):=λwr y=>J.out.1.trans (y.mono (by omega));go_loopw [3,9] (λv U wr=>∃(k:Nat)(aN:av),k<=len/\U=ab k/\aN=v/\Hid (Qa n B p z (w.heap.size+2) k aN wr)) (λ_ U _=>len-(intOf U).toNat)
 case atStart=>exact⟨0,_,by omega,rfl,rfl,[],rfl,ft.nil _,rfl⟩
 case round=>
  obtain⟨k,v,bE,rfl,rfl,Z⟩:=hrel;obtain⟨u,t,j,L⟩:∃u:List (Tm (n+2)),Hid (u.length=k)/\Hid (ey (n+2) B (w.heap.size+2) u v z wr)/\Hid (aG (λa b=>aB (n+2) a (n+2) b) u ((p.take k).map (cq n))=true):=Z.out;clear Z;have E:=au (V.out wr j.out.1);have bd:w.heap.size+2<=wr.heap.size:=by have:=j.out.1.size;have:=J.out.2;omega
  by_cases bf:k<len
  ·obtain⟨e,T⟩:∃e,p[k]?=some e:=⟨p[k]'(by rw[aH.out];exact bf),aM _⟩;have aR:=au (mf (cq n) p k e T);obtain⟨bn,po,rfl,bJ,⟨bo,⟨bp,br,bs,bt⟩,⟨bu,bv,bw,bx⟩,bz,bq⟩,aC⟩:=(kE (fO (n+1)) (E.out.mono al) bi.out).ac k e T;have an:B<=wr.heap.size:=by omega
   have W:Hid (∀w1,ak wr w1->am 180 #[.agg #[ab e.1,ab e.2.1.1.1.1,ab e.2.1.1.1.2.1,af e.2.1.1.1.2.2,ae e.2.1.1.2.1.1 e.2.1.1.2.2.length e.2.1.1.2.1.2,ab e.2.1.2.1.1,ab e.2.1.2.1.2.1,af e.2.1.2.1.2.2,ae e.2.1.2.2.1.1 e.2.1.2.2.2.length e.2.1.2.2.1.2,af e.2.2.1,ab e.2.2.2]] w1 (iO B (n+2) (cq n e) w1)):=
    λw1 aL=>Cv n e B w1 ((fO (n+1)).below (aL.mono an) aC) (aD an aL.size)
   clear aC T;generalize cq n e=bB at*;have bG:(0:Int)<=(k:Int):=by omega
   have bH:(k:Int)<(len:Int):=by omega
   have bK:bn<wr.heap.size:=by omega
   obtain⟨l,q,C⟩:=j.out.slice;rw[t.out]at C;subst C;go_wp2_with fail;refine(W.out _ aV).mono ?_;rintro Q D ⟨i,rfl,H⟩;have K:Hid (ak wr D):=aV.trans (H.out.1.mono (by simp));have ah:dw (n+2) i=.agg #[ab i.1.1,ab i.1.2.1,af i.1.2.2,ae i.2.1.1 i.2.2.length i.2.1.2]:=rfl;rw[ah];have aT:=λ(o:Obj)(g c:Nat)(w4:ag) bh be bb=>au (j.out.app t.out (by omega) bd K.out i H.out.2.1 (H.out.2.2.1.mono λb bc=>by simp at bc;omega) (o:=o) (g:=g) (c:=c) (w4:=w4) bh be bb);have bC:wr.heap.size<=D.heap.size:=K.out.size;clear ah W bo bp br bs bt bu bv bw bx bz bq;go_wp2_with (at_builtin;refine wpList_append_lies _ rfl _ _ 29 rfl (w.heap.size+2) 31 bm _ 4 56 underlying29 G.out.1 G.out.2.1 G.out.2.2.1 G.out.2.2.2 rfl (by decide) (ae l k q) k (u.flatMap (iy (n+2))) (by simp[Act.eval]) (j.out.own t.out K.out _) ⟨D.heap.size,0,none⟩ 1 1 (iy (n+2) i) (by simp[Act.eval]) rfl (Ae D (gu (n+2) i) rfl) (um _ _) (by decide) (by unfold maxLen;omega) (by omega) (by simp;omega) (D.heap.size+1) (by simp) ?_;intro a8 M w4 aF aA ar bI;have aS:=aT _ a8 M w4 aF aA ar;clear aF aA ar);go_roundw
   case rel=>exact⟨k+1,_,by omega,by go_num,rfl,u++ [i],by simp[t.out],aS.out,by rw[aR.out];exact jf _ _ _ _ _ L.out H.out.2.2.2⟩
   case measure=>simp[intOf];omega
  ·obtain rfl:k=len:=by omega
   obtain⟨l,q,C⟩:=j.out.slice;rw[t.out]at C;subst C;have f:=au (And.intro ((j.out.1.block w.heap.size (by omega)).trans F.out.1) ((j.out.1.block (w.heap.size+1) (by omega)).trans F.out.2));have aX:wr.cell? ⟨w.heap.size,0,none⟩=some (ab s.1.1):=ay f.out.1 0;have aY:wr.cell? ⟨w.heap.size,1,none⟩=some (ab s.1.2.1):=ay f.out.1 1;have a2:wr.cell? ⟨w.heap.size,2,none⟩=some (af s.1.2.2):=ay f.out.1 2;have a3:wr.cell? ⟨w.heap.size,3,none⟩=some (ae s.2.1.1 s.2.2.length s.2.1.2):=ay f.out.1 3;have M:wr.cell? ⟨w.heap.size,4,none⟩=some (ab m.1.1):=ay f.out.1 4;have a4:wr.cell? ⟨w.heap.size,5,none⟩=some (ab m.1.2.1):=ay f.out.1 5;have a5:wr.cell? ⟨w.heap.size,6,none⟩=some (af m.1.2.2):=ay f.out.1 6;have a6:wr.cell? ⟨w.heap.size,7,none⟩=some (ae m.2.1.1 m.2.2.length m.2.1.2):=ay f.out.1 7;have a7:wr.cell? ⟨w.heap.size,9,none⟩=some (ab x.1.1):=ay f.out.1 9;have aZ:wr.cell? ⟨w.heap.size,10,none⟩=some (ab x.1.2.1):=ay f.out.1 10;have a0:wr.cell? ⟨w.heap.size,11,none⟩=some (af x.1.2.2):=ay f.out.1 11;have a1:wr.cell? ⟨w.heap.size,12,none⟩=some (ae x.2.1.1 x.2.2.length x.2.1.2):=ay f.out.1 12;have N:wr.cell? ⟨w.heap.size+1,0,none⟩=some (ab 0):=ay f.out.2 0;have d1:wr.cell? ⟨w.heap.size+1,1,none⟩=some (ab 0):=ay f.out.2 1;have O:wr.cell? ⟨w.heap.size+1,2,none⟩=some (af ⟨#[]⟩):=ay f.out.2 2;have P:wr.cell? ⟨w.heap.size+1,3,none⟩=some (ae none 0 0):=ay f.out.2 3;have ai:=λI=>dc f.out.2 I;have bj:w.heap.size<wr.heap.size:=by omega
   have A:w.heap.size+1<wr.heap.size:=by omega
   have X:Hid (∀d,ak wr d->(d.cell? ⟨w.heap.size,0,none⟩=some (ab s.1.1)/\d.cell? ⟨w.heap.size,1,none⟩=some (ab s.1.2.1)/\d.cell? ⟨w.heap.size,2,none⟩=some (af s.1.2.2)/\d.cell? ⟨w.heap.size,3,none⟩=some (ae s.2.1.1 s.2.2.length s.2.1.2))/\
     (d.cell? ⟨w.heap.size,4,none⟩=some (ab m.1.1)/\d.cell? ⟨w.heap.size,5,none⟩=some (ab m.1.2.1)/\d.cell? ⟨w.heap.size,6,none⟩=some (af m.1.2.2)/\d.cell? ⟨w.heap.size,7,none⟩=some (ae m.2.1.1 m.2.2.length m.2.1.2))/\
     (d.cell? ⟨w.heap.size,9,none⟩=some (ab x.1.1)/\d.cell? ⟨w.heap.size,10,none⟩=some (ab x.1.2.1)/\d.cell? ⟨w.heap.size,11,none⟩=some (af x.1.2.2)/\d.cell? ⟨w.heap.size,12,none⟩=some (ae x.2.1.1 x.2.2.length x.2.1.2))):=λd y=>by
    have h:=λo=>ax y w.heap.size o bj;exact⟨⟨(h _).trans aX,(h _).trans aY,(h _).trans a2,(h _).trans a3⟩,⟨(h _).trans M,(h _).trans a4,(h _).trans a5,(h _).trans a6⟩,(h _).trans a7,(h _).trans aZ,(h _).trans a0,(h _).trans a1⟩
   have aa:Hid True:=trivial;have aP:=λ(w1:ag)(a9:ak wr w1)=>au (yU (base:=w.heap.size+2) (ys:=p.map (cq n)) (w1:=w1) al bk.out bg.out bl.out E.out j.out.tup (dh rfl (by have y:=L.out;rw[bF (by rw[aH.out];omega)]at y;exact y)) a9);have aQ:=au t.out;clear R j t L f V J F;go_wp2_with fail
   go_region_held3 (λd=>(d.cell? ⟨w.heap.size,0,none⟩=some (ab s.1.1)/\d.cell? ⟨w.heap.size,1,none⟩=some (ab s.1.2.1)/\d.cell? ⟨w.heap.size,2,none⟩=some (af s.1.2.2)/\d.cell? ⟨w.heap.size,3,none⟩=some (ae s.2.1.1 s.2.2.length s.2.1.2))/\
       (d.cell? ⟨w.heap.size,4,none⟩=some (ab m.1.1)/\d.cell? ⟨w.heap.size,5,none⟩=some (ab m.1.2.1)/\d.cell? ⟨w.heap.size,6,none⟩=some (af m.1.2.2)/\d.cell? ⟨w.heap.size,7,none⟩=some (ae m.2.1.1 m.2.2.length m.2.1.2))/\
       (d.cell? ⟨w.heap.size,9,none⟩=some (ab x.1.1)/\d.cell? ⟨w.heap.size,10,none⟩=some (ab x.1.2.1)/\d.cell? ⟨w.heap.size,11,none⟩=some (af x.1.2.2)/\d.cell? ⟨w.heap.size,12,none⟩=some (ae x.2.1.1 x.2.2.length x.2.1.2))) (first|(go_keep;done)|exact X.out _ r.out|(refine X.out _ ?_;go_grown;done))
    ((first
     | (go_at_call 101;refine(iR _ _).mono ?_;rintro Q w1 ⟨rfl,rfl⟩)
     | (go_at_call 103;have aW:=aa;clear aa;refine(fS _ _ _ _).mono ?_;rintro Q w1 ⟨rfl,rfl⟩)
     | (go_at_call 103;clear aW;refine(fS _ _ _ _).mono ?_;rintro Q aO ⟨rfl,S⟩;have r:=au (show ak wr aO by rw[S];go_grown);have aU:=au S;clear S;replace N:=(ax r.out _ _ A).trans N;replace d1:=(ax r.out _ _ A).trans d1;replace O:=(ax r.out _ _ A).trans O;replace P:=(ax r.out _ _ A).trans P;replace ai:=λI=>(gM r.out _ I A).trans (ai I))))
   go_wp2_with fail;refine az (v:=.agg #[ab 4,ab 0,af ⟨#[]⟩,ae (some ⟨wr.heap.size+1+1,0,none⟩) 5 5]) (by simp[results,results142,go_sem,N,d1,O,P]) rfl ?_;rw[ba.out];have ap:ak wr ((wr.alloc (.cells #[ab 2,ab 0,af ⟨#[111,110]⟩,ae none 0 0] 31)).alloc (.cells #[ab 4,ab 0,af ⟨#[]⟩,ae l k q] 31)):=by go_grown
   have aj:Below (((wr.alloc (.cells #[ab 2,ab 0,af ⟨#[111,110]⟩,ae none 0 0] 31)).alloc (.cells #[ab 4,ab 0,af ⟨#[]⟩,ae l k q] 31)).alloc (.cells #[ab 2,ab 0,af ⟨#[111,110]⟩,ae none 0 0,ab s.1.1,ab s.1.2.1,af s.1.2.2,ae s.2.1.1 s.2.2.length s.2.1.2,ab m.1.1,ab m.1.2.1,af m.1.2.2,ae m.2.1.1 m.2.2.length m.2.1.2,ab 4,ab 0,af ⟨#[]⟩,ae l k q,ab x.1.1,ab x.1.2.1,af x.1.2.2,ae x.2.1.1 x.2.2.length x.2.1.2] 31)).heap.size (((wr.alloc (.cells #[ab 2,ab 0,af ⟨#[111,110]⟩,ae none 0 0] 31)).alloc (.cells #[ab 4,ab 0,af ⟨#[]⟩,ae l k q] 31)).alloc (.cells #[ab 2,ab 0,af ⟨#[111,110]⟩,ae none 0 0,ab s.1.1,ab s.1.2.1,af s.1.2.2,ae s.2.1.1 s.2.2.length s.2.1.2,ab m.1.1,ab m.1.2.1,af m.1.2.2,ae m.2.1.1 m.2.2.length m.2.1.2,ab 4,ab 0,af ⟨#[]⟩,ae l k q,ab x.1.1,ab x.1.2.1,af x.1.2.2,ae x.2.1.1 x.2.2.length x.2.1.2] 31)) aO:=by rw[aU.out];go_grown
   have Y:=aP _ ap;exact Ev (B:=B) (base:=w.heap.size+2) _ _ (by have:=ap.size;omega) (by simp) rfl (by omega) (zH (by omega) (by omega) aj) (aD aj.size (dF (bA _ _ _ _).symm)) (dO (E.out.trans (r.out.mono E.out.size)) (by omega)) (yT n s m x l q k u aQ.out) (by show 5<=8;omega) Y.out.1 Y.out.2
theorem we(n:Nat)(c:Cl (n+1))(B:Nat)(w:ag)(a:ig (n+1) B w c)(e:c.2.2.length<=8)(f:B<=w.heap.size):am 142 #[.agg (fk (n+1) c).toArray] w (iO B (n+4) (dJ n c) w):=by
 obtain⟨⟨h,g,i⟩,⟨d,pc⟩,b⟩:=c;exact tW n h g i b b.length rfl e d pc B w a.1.1 a.1.2.1 a.1.2.2 a.2.2 f _ rfl
def Qc(n B:Nat)(d:List (Tm (n+4)))(p:List (Cl (n+1)))(w0:ag)(base k:Nat)(v:av)(wr:ag):Prop:=
 ∃a,a.length=k+2/\ey (n+4) B base a v w0 wr/\aG (λc b=>aB (n+4) c (n+4) b) a (d++(p.take k).map (dJ n))=true
theorem qH(n:Nat)(s:ap)(bd:s.size<=maxLen)(p:List (Cl (n+1)))(len:Nat)(aK:Hid (p.length=len))(bC:len<=6)(a5:Hid (∀c∈p,c.2.2.length<=8))(a:aw)(pc:Nat)(B:Nat)(w:ag)(bc:Hid (qi B w 13 (fk (n+1)) (ig (n+1) B w) a p))(a6:B<=w.heap.size)(ah:Tm (n+5))(a7:Hid (ah=dR n (s,(a,pc),p))):am 102 #[.agg #[af s,ae a len pc]] w (iO B (n+5) ah w):=by
 obtain⟨bf,aI,aO,aP,aQ⟩:=bW gw;have A:=au (⟨aI,aO,aP,aQ⟩:_/\_/\_/\_);clear aI aO aP aQ;go_enter func102,ntmps102;go_wp2_with fail;have O:=au (kw w (.cells #[af s,ae a len pc] 151) (.cells #[ab 0,ab 0,af ⟨#[]⟩,ae none 0 0] 31)).2;have z:=au (kw w (.cells #[af s,ae a len pc] 151) (.cells #[ab 0,ab 0,af ⟨#[]⟩,ae none 0 0] 31)).1;generalize S:(w.alloc _).alloc _=e;rw[S]at O z;have j:Hid (ak w e/\e.heap.size=w.heap.size+2):=by
  subst S;exact⟨((aq _ _).alloc (ao _) _).alloc (by simp) _,by simp⟩
 have aT:Hid (∀wr,Below (w.heap.size+2) e wr->ak w wr):=λwr h=>j.out.1.trans (h.mono (by omega));clear S;have ai:e.cell? ⟨w.heap.size,0,none⟩=some (af s):=ay z.out 0;have aj:e.cell? ⟨w.heap.size,1,none⟩=some (ae a len pc):=ay z.out 1;have aL:w.heap.size<e.heap.size:=by have:=j.out.2;omega
 have M:Hid (∀w',ak e w'->w'.cell? ⟨w.heap.size,0,none⟩=some (af s)/\w'.cell? ⟨w.heap.size,1,none⟩=some (ae a len pc)):=λw' h=>⟨(ax h _ _ aL).trans ai,(ax h _ _ aL).trans aj⟩;clear z
 go_region_held3 (λw'=>w'.cell? ⟨w.heap.size,0,none⟩=some (af s)/\w'.cell? ⟨w.heap.size,1,none⟩=some (ae a len pc)) (first|(go_keep;done)|(refine M.out _ ?_;go_grown;done))
  ((go_at_call 101;refine(iR _ _).mono ?_;rintro D w1 ⟨rfl,rfl⟩))
 have aa:Hid (aG (λa b=>aB (n+4) a (n+4) b) [bq tY (n+3),bq s (n+3)] ([bq tY (n+3),bq s (n+3)]++(p.take 0).map (dJ n))=true):=by
  show _=true;simp[aG,dZ]
 have L:Hid (ey (n+4) B (w.heap.size+2) [bq tY (n+3),bq s (n+3)] (ae (some ⟨e.heap.size+1+1,0,none⟩) 2 2) e (((e.alloc (.cells #[ab 2,ab 0,af ⟨#[98,101,104]⟩,ae none 0 0] 31)).alloc (.cells #[ab 2,ab 0,af s,ae none 0 0] 31)).alloc (.cells #[ab 2,ab 0,af ⟨#[98,101,104]⟩,ae none 0 0,ab 2,ab 0,af s,ae none 0 0] 31)).drew):=by
  have h:=ft.lit (T:=31) (k:=4) (B:=B) (base:=w.heap.size+2) (ei (n+4)) [bq tY (n+3),bq s (n+3)] (w0:=e) (w1:=(e.alloc (.cells #[ab 2,ab 0,af ⟨#[98,101,104]⟩,ae none 0 0] 31)).alloc (.cells #[ab 2,ab 0,af s,ae none 0 0] 31)) (cs:= #[ab 2,ab 0,af ⟨#[98,101,104]⟩,ae none 0 0,ab 2,ab 0,af s,ae none 0 0]) rfl (pi _) (by show 2<=maxLen;unfold maxLen;omega) (by have:=j.out.2;simp;omega) (((aq _ _).alloc (by have:=j.out.2;omega) _).alloc (by have:=j.out.2;simp;omega) _) (λd m=>by
   simp only[cv,gF,gJ]at m;rcases m with rfl|rfl
   ·exact⟨il _ _ (nM _ (by decide)) _ _,oM _ _ _⟩
   ·exact⟨il _ _ bd _ _,oM _ _ _⟩)
  have D:((e.alloc (.cells #[ab 2,ab 0,af ⟨#[98,101,104]⟩,ae none 0 0] 31)).alloc (.cells #[ab 2,ab 0,af s,ae none 0 0] 31)).heap.size=e.heap.size+1+1:=by simp
  rw[D]at h;exact h.later (ei _) (by have:=j.out.2;simp;omega) (aq _ _).drew
 have N:=au (M.out _ (show ak e (((e.alloc (.cells #[ab 2,ab 0,af ⟨#[98,101,104]⟩,ae none 0 0] 31)).alloc (.cells #[ab 2,ab 0,af s,ae none 0 0] 31)).alloc (.cells #[ab 2,ab 0,af ⟨#[98,101,104]⟩,ae none 0 0,ab 2,ab 0,af s,ae none 0 0] 31)).drew by go_grown));generalize aA:(((e.alloc _).alloc _).alloc _).drew=a1;rw[aA]at L N;have bK:a1.cell? ⟨w.heap.size,1,none⟩=some (ae a len pc):=N.out.2;clear aA M N ai aj;go_wp2_with fail;go_loopw [3,14] (λv V wr=>∃(k:Nat)(aS:av),k<=len/\V=ab k/\aS=v/\Hid (Qc n B ([bq tY (n+3),bq s (n+3)]) p e (w.heap.size+2) k aS wr)) (λ_ V _=>len-(intOf V).toNat)
 case atStart=>exact⟨0,_,by omega,rfl,rfl,_,rfl,L.out,aa.out⟩
 case round=>
  clear L aa;obtain⟨k,v,bD,rfl,rfl,ad⟩:=hrel;obtain⟨t,q,i,Z⟩:∃t:List (Tm (n+4)),Hid (t.length=k+2)/\Hid (ey (n+4) B (w.heap.size+2) t v e wr)/\Hid (aG (λa b=>aB (n+4) a (n+4) b) t (([bq tY (n+3),bq s (n+3)])++(p.take k).map (dJ n))=true):=ad.out;clear ad;have K:=au (aT.out wr i.out.1);have aE:w.heap.size+2<=wr.heap.size:=by have:=i.out.1.size;have:=j.out.2;omega
  by_cases ba:k<len
  ·obtain⟨d,m⟩:∃d,p[k]?=some d:=⟨p[k]'(by rw[aK.out];exact ba),aM _⟩;have aW:=au (mf (dJ n) p k d m);obtain⟨bg,po,rfl,bI,⟨⟨bh,bi,bm,bn⟩,⟨bo,bp,br,bs⟩,bt,bu,bj,bk,bl⟩,aH⟩:=(kE (eE (n+1)) (K.out.mono a6) bc.out).cl k d m;have ar:B<=wr.heap.size:=by omega
   have aZ:=au m
   have Y:Hid (∀w1,ak wr w1->am 142 #[.agg #[ab d.1.1.1.1,ab d.1.1.1.2.1,af d.1.1.1.2.2,ae d.1.1.2.1.1 d.1.1.2.2.length d.1.1.2.1.2,ab d.1.2.1.1.1,ab d.1.2.1.1.2.1,af d.1.2.1.1.2.2,ae d.1.2.1.2.1.1 d.1.2.1.2.2.length d.1.2.1.2.1.2,ae d.2.1.1 d.2.2.length d.2.1.2,ab d.1.2.2.1.1,ab d.1.2.2.1.2.1,af d.1.2.2.1.2.2,ae d.1.2.2.2.1.1 d.1.2.2.2.2.length d.1.2.2.2.1.2]] w1 (iO B (n+4) (dJ n d) w1)):=
    λw1 F=>we n d B w1 ((eE (n+1)).below (F.mono ar) aH) (a5.out d (aN aZ.out)) (aD ar F.size)
   clear aH m;generalize dJ n d=bv at*;have bE:(0:Int)<=(k:Int):=by omega
   have bG:(k:Int)<(len:Int):=by omega
   have bJ:bg<wr.heap.size:=by omega
   obtain⟨H,I,x⟩:=i.out.slice;rw[q.out]at x;subst x;go_wp2_with fail;refine(Y.out _ aV).mono ?_;rintro D y ⟨f,rfl,C⟩;have J:Hid (ak wr y):=aV.trans (C.out.1.mono (by simp));have E:dw (n+4) f=.agg #[ab f.1.1,ab f.1.2.1,af f.1.2.2,ae f.2.1.1 f.2.2.length f.2.1.2]:=rfl;rw[E];have aY:=λ(o:Obj)(g c:Nat)(w4:ag) bb a9 a8=>au (i.out.app q.out (by omega) aE J.out f C.out.2.1 (C.out.2.2.1.mono λb U=>by simp at U;omega) (o:=o) (g:=g) (c:=c) (w4:=w4) bb a9 a8);have bB:wr.heap.size<=y.heap.size:=J.out.size;clear E Y bh bi bm bn bo bp br bs bt bu bj bk bl;go_wp2_with (at_builtin;refine wpList_append_lies _ rfl _ _ 29 rfl (w.heap.size+2) 31 bf _ 4 56 underlying29 A.out.1 A.out.2.1 A.out.2.2.1 A.out.2.2.2 rfl (by decide) (ae H (k+2) I) (k+2) (t.flatMap (iy (n+4))) (by simp[Act.eval]) (i.out.own q.out J.out _) ⟨y.heap.size,0,none⟩ 1 1 (iy (n+4) f) (by simp[Act.eval]) rfl (Ae y (gu (n+4) f) rfl) (um _ _) (by decide) (by unfold maxLen;omega) (by omega) (by simp;omega) (y.heap.size+1) (by simp) ?_;intro a4 a2 w4 aJ aF aC bH;have aX:=aY _ a4 a2 w4 aJ aF aC;clear aJ aF aC);go_roundw
   case rel=>exact⟨k+1,_,by omega,by go_num,rfl,t++ [f],by have:=q.out;simp;omega,aX.out,by rw[aW.out,<-mV];exact jf _ _ _ _ _ Z.out C.out.2.2.2⟩
   case measure=>simp[intOf];omega
  ·obtain rfl:k=len:=by omega
   obtain⟨H,I,x⟩:=i.out.slice;rw[q.out]at x;subst x;have r:=au ((i.out.1.block (w.heap.size+1) (by omega)).trans O.out);have P:wr.cell? ⟨w.heap.size+1,0,none⟩=some (ab 0):=ay r.out 0;have d1:wr.cell? ⟨w.heap.size+1,1,none⟩=some (ab 0):=ay r.out 1;have Q:wr.cell? ⟨w.heap.size+1,2,none⟩=some (af ⟨#[]⟩):=ay r.out 2;have R:wr.cell? ⟨w.heap.size+1,3,none⟩=some (ae none 0 0):=ay r.out 3;have an:=λG=>dc r.out G;have u:w.heap.size+1<wr.heap.size:=by omega
   have aU:=λ(a0 w':ag) U F be=>au (ey.tells (w:=w) (ys:=([bq tY (n+3),bq s (n+3)])++p.map (dJ n)) (w':=w') (i.out.later (ei _) aE (w1:=a0) U) (by omega) (by have h:=Z.out;rw[bF (by rw[aK.out];omega)]at h;exact h) F be);clear r O;go_wp2_with (go_at_call 103;refine(fS _ _ _ _).mono ?_;rintro D W ⟨rfl,aR⟩;have l:=au (show ak wr W by rw[aR];go_grown);clear aR;replace P:=(ax l.out _ _ u).trans P;replace d1:=(ax l.out _ _ u).trans d1;replace Q:=(ax l.out _ _ u).trans Q;replace R:=(ax l.out _ _ u).trans R;replace an:=λG=>(gM l.out _ G u).trans (an G));refine az (v:=.agg #[ab 4,ab 0,af ⟨#[]⟩,ae H (k+2) I]) (by simp[results,results102,go_sem,P,d1,Q,R]) rfl ?_;rw[a7.out];obtain⟨bw,bx,al,X⟩:=(aU W (di W (w.heap.size+1) 0 (ab 4) (ab 0) (af ⟨#[]⟩) (ae H (k+2) I)) l.out (zH (by omega) (by omega) (aq _ _)) (dF (bA _ _ _ _).symm)).out (dO (K.out.trans (l.out.mono K.out.size)) (by omega));rw[q.out]at al X;injection al with a3 bz E;subst a3 E;exact X
theorem rX(n:Nat)(b:Bh (n+1))(B:Nat)(w:ag)(a:pJ (n+1) B w b)(f:b.2.2.length<=6)(g:∀c∈b.2.2,c.2.2.length<=8)(h:B<=w.heap.size):am 102 #[.agg (pN (n+1) b).toArray] w (iO B (n+5) (dR n b) w):=by
 obtain⟨i,⟨e,pc⟩,d⟩:=b;exact qH n i a.1 d d.length rfl f g e pc B w a.2.2 h _ rfl
def Qe(n B:Nat)(d:List (Tm (n+5)))(p:List (Bh (n+1)))(w0:ag)(base k:Nat)(v:av)(wr:ag):Prop:=
 ∃a,a.length=k+1/\ey (n+5) B base a v w0 wr/\aG (λc b=>aB (n+5) c (n+5) b) a (d++(p.take k).map (dR n))=true
theorem sS(n:Nat)(p:List (Bh (n+1)))(len:Nat)(aE:Hid (p.length=len))(bg:len<=7)(ah:Hid (∀b∈p,b.2.2.length<=6/\∀c∈b.2.2,c.2.2.length<=8))(a:aw)(pc:Nat)(B:Nat)(w:ag)(a4:Hid (gq (n+1) B w a p))(aY:B<=w.heap.size)(Z:Tm (n+6))(aZ:Hid (Z=cd n p)):am 66 #[ae a len pc] w (iO B (n+6) Z w):=by
 obtain⟨a6,aA,aH,aI,aJ⟩:=bW gw;have y:=au (⟨aA,aH,aI,aJ⟩:_/\_/\_/\_);clear aA aH aI aJ;go_enter func66,ntmps66;go_wp2_with (go_at_call 101;refine(iR _ _).mono ?_;rintro A w1 ⟨rfl,rfl⟩);have K:=au (aF w (.cells #[ab 0,ab 0,af ⟨#[]⟩,ae none 0 0] 31));have W:Hid (aG (λa b=>aB (n+5) a (n+5) b) [bq nU (n+4)] ([bq nU (n+4)]++(p.take 0).map (dR n))=true):=by
  show _=true;simp[aG,dZ]
 generalize O:w.alloc (.cells #[ab 0,ab 0,af ⟨#[]⟩,ae none 0 0] 31)=e;rw[O]at K;have s:Hid (ak w e/\e.heap.size=w.heap.size+1):=by
  subst O;exact⟨(aq _ _).alloc (ao _) _,by simp⟩
 have aO:Hid (∀wr,Below (w.heap.size+1) e wr->ak w wr):=λwr j=>s.out.1.trans (j.mono (by omega));clear O;have J:Hid (ey (n+5) B (w.heap.size+1) [bq nU (n+4)] (ae (some ⟨w.heap.size+1+1,0,none⟩) 1 1) e ((e.alloc (.cells #[ab 2,ab 0,af ⟨#[99,111,100,101]⟩,ae none 0 0] 31)).alloc (.cells #[ab 2,ab 0,af ⟨#[99,111,100,101]⟩,ae none 0 0] 31))):=by
  have j:=ft.lit (T:=31) (k:=4) (B:=B) (base:=w.heap.size+1) (ei (n+5)) [bq nU (n+4)] (w0:=e) (w1:=e.alloc (.cells #[ab 2,ab 0,af ⟨#[99,111,100,101]⟩,ae none 0 0] 31)) (cs:= #[ab 2,ab 0,af ⟨#[99,111,100,101]⟩,ae none 0 0]) rfl (pi _) (by show 1<=maxLen;unfold maxLen;omega) (by have:=s.out.2;simp;omega) ((aq _ _).alloc (by have:=s.out.2;omega) _) (λd l=>by
   simp only[cv,gF,gJ]at l;subst l
   exact⟨il _ _ (nM _ (by decide)) _ _,oM _ _ _⟩)
  have A:(e.alloc (.cells #[ab 2,ab 0,af ⟨#[99,111,100,101]⟩,ae none 0 0] 31)).heap.size=w.heap.size+1+1:=by have:=s.out.2;simp;omega
  rw[A]at j;exact j
 generalize aj:(e.alloc _).alloc _=ba;rw[aj]at J;clear aj;go_loopw [3,10] (λv Q wr=>∃(k:Nat)(aL:av),k<=len/\Q=ab k/\aL=v/\Hid (Qe n B ([bq nU (n+4)]) p e (w.heap.size+1) k aL wr)) (λ_ Q _=>len-(intOf Q).toNat)
 case atStart=>exact⟨0,_,by omega,rfl,rfl,_,rfl,J.out,W.out⟩
 case round=>
  clear J W;obtain⟨k,v,bi,rfl,rfl,X⟩:=hrel;obtain⟨r,m,h,V⟩:∃r:List (Tm (n+5)),Hid (r.length=k+1)/\Hid (ey (n+5) B (w.heap.size+1) r v e wr)/\Hid (aG (λa b=>aB (n+5) a (n+5) b) r (([bq nU (n+4)])++(p.take k).map (dR n))=true):=X.out;clear X;have I:=au (aO.out wr h.out.1);have an:w.heap.size+1<=wr.heap.size:=by have:=h.out.1.size;have:=s.out.2;omega
  by_cases a2:k<len
  ·obtain⟨d,l⟩:∃d,p[k]?=some d:=⟨p[k]'(by rw[aE.out];exact a2),aM _⟩;have aQ:=au (mf (dR n) p k d l);obtain⟨a7,po,rfl,bm,⟨a8,a9⟩,ar⟩:=(gq.below (I.out.mono aY) a4.out).bh k d l;have ai:B<=wr.heap.size:=by omega
   have Y:=au l
   have U:Hid (∀w1,ak wr w1->am 102 #[.agg #[af d.1,ae d.2.1.1 d.2.2.length d.2.1.2]] w1 (iO B (n+5) (dR n d) w1)):=
    λw1 D=>rX n d B w1 ((ed (n+1)).below (D.mono ai) ar) (ah.out d (aN Y.out)).1 (ah.out d (aN Y.out)).2 (aD ai D.size)
   clear ar l;generalize dR n d=bb at*;have bj:(0:Int)<=(k:Int):=by omega
   have bk:(k:Int)<(len:Int):=by omega
   have bn:a7<wr.heap.size:=by omega
   obtain⟨F,G,u⟩:=h.out.slice;rw[m.out]at u;subst u;go_wp2_with fail;refine(U.out _ aV).mono ?_;rintro A x ⟨f,rfl,z⟩;have H:Hid (ak wr x):=aV.trans (z.out.1.mono (by simp));have C:dw (n+5) f=.agg #[ab f.1.1,ab f.1.2.1,af f.1.2.2,ae f.2.1.1 f.2.2.length f.2.1.2]:=rfl;rw[C];have aS:=λ(o:Obj)(g c:Nat)(w4:ag) a3 a1 a0=>au (h.out.app m.out (by omega) an H.out f z.out.2.1 (z.out.2.2.1.mono λb P=>by simp at P;omega) (o:=o) (g:=g) (c:=c) (w4:=w4) a3 a1 a0);have bf:wr.heap.size<=x.heap.size:=H.out.size;clear C U a8 a9;go_wp2_with (at_builtin;refine wpList_append_lies _ rfl _ _ 29 rfl (w.heap.size+1) 31 a6 _ 4 56 underlying29 y.out.1 y.out.2.1 y.out.2.2.1 y.out.2.2.2 rfl (by decide) (ae F (k+1) G) (k+1) (r.flatMap (iy (n+5))) (by simp[Act.eval]) (h.out.own m.out H.out _) ⟨x.heap.size,0,none⟩ 1 1 (iy (n+5) f) (by simp[Act.eval]) rfl (Ae x (gu (n+5) f) rfl) (um _ _) (by decide) (by unfold maxLen;omega) (by omega) (by simp;omega) (x.heap.size+1) (by simp) ?_;intro aX aU w4 aC ap al bl;have aR:=aS _ aX aU w4 aC ap al;clear aC ap al);go_roundw
   case rel=>exact⟨k+1,_,by omega,by go_num,rfl,r++ [f],by have:=m.out;simp;omega,aR.out,by rw[aQ.out,<-mV];exact jf _ _ _ _ _ V.out z.out.2.2.2⟩
   case measure=>simp[intOf];omega
  ·obtain rfl:k=len:=by omega
   obtain⟨F,G,u⟩:=h.out.slice;rw[m.out]at u;subst u;have q:=au ((h.out.1.block (w.heap.size) (by omega)).trans K.out);have L:wr.cell? ⟨w.heap.size,0,none⟩=some (ab 0):=ay q.out 0;have d1:wr.cell? ⟨w.heap.size,1,none⟩=some (ab 0):=ay q.out 1;have M:wr.cell? ⟨w.heap.size,2,none⟩=some (af ⟨#[]⟩):=ay q.out 2;have N:wr.cell? ⟨w.heap.size,3,none⟩=some (ae none 0 0):=ay q.out 3;have ad:=λE=>dc q.out E;have t:w.heap.size<wr.heap.size:=by omega
   have aP:=λ(aT w':ag) P D a5=>au (ey.tells (w:=w) (ys:=([bq nU (n+4)])++p.map (dR n)) (w':=w') (h.out.later (ei _) an (w1:=aT) P) (by omega) (by have j:=V.out;rw[bF (by rw[aE.out];omega)]at j;exact j) D a5);clear q K;go_wp2_with (go_at_call 103;refine(fS _ _ _ _).mono ?_;rintro A R ⟨rfl,aK⟩;have i:=au (show ak wr R by rw[aK];go_grown);clear aK;replace L:=(ax i.out _ _ t).trans L;replace d1:=(ax i.out _ _ t).trans d1;replace M:=(ax i.out _ _ t).trans M;replace N:=(ax i.out _ _ t).trans N;replace ad:=λE=>(gM i.out _ E t).trans (ad E));refine az (v:=.agg #[ab 4,ab 0,af ⟨#[]⟩,ae F (k+1) G]) (by simp[results,results66,go_sem,L,d1,M,N]) rfl ?_;rw[aZ.out];obtain⟨bc,bd,aa,S⟩:=(aP R (di R (w.heap.size) 0 (ab 4) (ab 0) (af ⟨#[]⟩) (ae F (k+1) G)) i.out (zH (by omega) (by omega) (aq _ _)) (dF (bA _ _ _ _).symm)).out (dO (I.out.trans (i.out.mono I.out.size)) (by omega));rw[m.out]at aa S;injection aa with aW be C;subst aW C;exact S
theorem tX(n:Nat)(p:List (Bh (n+1)))(a:aw)(pc:Nat)(B:Nat)(w:ag)(g:gq (n+1) B w a p)(d:p.length<=7)(e:∀b∈p,b.2.2.length<=6/\∀c∈b.2.2,c.2.2.length<=8)(f:B<=w.heap.size):am 66 #[ae a p.length pc] w (iO B (n+6) (cd n p) w):=
 sS n p p.length rfl d e a pc B w g f _ rfl
def zT(N:Nat):Tm (N+1):=((0,0,.empty),(none,0),[])
def lU(n:Nat)(p:List (Bh (n+1))):Int:=if kF (n+1) p then bE (n+6) (cd n p)else 5
def K7(n:Nat)(p:List (Bh (n+1))):Tm (n+6):=if lU n p=0 then cd n p else zT (n+5)
def IY(B n:Nat)(p:List (Bh (n+1)))(w:ag)(e:Ending)(w':ag):Prop:=
 ∃a:Tm (n+6),e=.returned (.tuple #[dw (n+6) a,ab (lU n p)])/\Hid (ak w w'/\In w'.heap.size w' (n+6) a/\cr (λb=>b<B\/w.heap.size<=b) (n+6) a/\aB (n+6) a (n+6) (K7 n p)=true)
theorem lF(N B:Nat)(w:ag):In B w (N+1) (zT N):=⟨⟨by simp[zT,dC],by simp[zT,dC],aL _,by simp[zT],by simp[zT]⟩,ai rfl⟩
theorem FH{p:List (Bh (n+1))}{k:Int}(b:ak w w')(c:k=lU n p)(a:¬k=0):IY B n p w (.returned (.tuple #[.agg #[ab 0,ab 0,af .empty,ae none 0 0],ab k])) w':=by
 subst c;refine⟨zT (n+5),rfl,b,lF _ _ _,ai rfl,?_⟩;unfold K7;rw[if_neg a];exact lQ (lF _ 0 w)
theorem xP{p:List (Bh n)}(a:kF n p=true):p.length<=7/\∀b∈p,b.2.2.length<=6/\∀c∈b.2.2,c.2.2.length<=8:=by
 simp only[kF,wI,tJ,aK,co,cu]at a;refine⟨by omega,λb d=>⟨by have:=(a.2 b d).1.2;omega,λc e=>by have:=((a.2 b d).2 c e).1;omega⟩⟩
theorem ri(w:ag)(v0 v1 v2 v3:av)(t:TypeId)(a:Below (w.alloc (.cells #[v0,v1,v2,v3] t)).heap.size (w.alloc (.cells #[v0,v1,v2,v3] t)) w'):w'.heap[w.heap.size]?=some (.cells #[v0,v1,v2,v3] t):=
 (a.block _ (by simp)).trans (aF w _)
theorem K8(n:Nat)(p:List (Bh (n+1)))(a:aw)(pc:Nat)(aE:p.length<=pc)(ap:pc<=maxLen)(B:Nat)(w:ag)(O:gq (n+1) B w a p)(E:B<=w.heap.size)(an:kF (n+1) p=true->(aC (n+6) (cd n p)).length<=2097152):am 37 #[ae a p.length pc] w (IY B n p w):=by
 have T:Hid (∀f,ak w f->am 65 #[ae a p.length pc] f λk m=>k=.returned (.bool (kF (n+1) p))/\ak f m):=
  λf x=>pV n p p.length rfl a pc B f (O.below (x.mono E)) (by unfold maxLen at ap;omega) (aD E x.size)
 have J:Hid (kF (n+1) p=true->∀f,ak w f->am 66 #[ae a p.length pc] f (iO B (n+6) (cd n p) f)):=
  λx f D=>tX n p a pc B f (O.below (D.mono E)) (xP x).1 (xP x).2 (aD E D.size)
 have A:Hid (lU n p=if kF (n+1) p then bE (n+6) (cd n p)else 5):=rfl;have U:=au an;have W:Hid (K7 n p=if lU n p=0 then cd n p else zT (n+5)):=rfl;clear O an aE ap;generalize p.length=len at*;generalize kF (n+1) p=aK at*;go_enter func37,ntmps37;go_wp2_with fail;refine(T _ aV).mono ?_;rintro k f ⟨rfl,M⟩;have h:=au (ri w _ _ _ _ _ M);have r:Hid (ak w f):=aV.trans (M.mono (by simp));have aF:w.heap.size<f.heap.size:=(aJ.1 h).1;clear M T;cases aK
 ·have s:f.cell? ⟨w.heap.size,0,none⟩=some (ab 0):=ay h 0;have d1:f.cell? ⟨w.heap.size,1,none⟩=some (ab 0):=ay h 1;have t:f.cell? ⟨w.heap.size,2,none⟩=some (af ⟨#[]⟩):=ay h 2;have u:f.cell? ⟨w.heap.size,3,none⟩=some (ae none 0 0):=ay h 3;have ai:=λz=>dc h z;clear J h;go_wp2_with fail;exact az (v:=.tuple #[.agg #[ab 0,ab 0,af .empty,ae none 0 0],ab 5]) (by simp[results,results37,go_sem,s,d1,t,u];rfl) rfl (FH (dO r (ao _)) (by rw[A.out];rfl) (by omega))
 ·have V:=au (J rfl f r);go_wp2_with fail;refine V.mono ?_;rintro k g ⟨d,rfl,j⟩;have P:Hid (ak w g):=r.trans (j.1.mono r.size);have ad:dw (n+6) d=.agg #[ab d.1.1,ab d.1.2.1,af d.1.2.2,ae d.2.1.1 d.2.2.length d.2.1.2]:=rfl;have R:Hid (∀e,ak g e->am 53 #[.agg #[ab d.1.1,ab d.1.2.1,af d.1.2.2,ae d.2.1.1 d.2.2.length d.2.1.2]] e λk m=>k=.returned (ab (lU n p))/\ak e m):=λe y=>by
   have:=dQ (n+6) d g.heap.size e (j.2.1.below y) y.size (by rw[kI _ _ _ _ j.out.2.2.2];exact U (by simp));rw[bV j.out.2.2.2]at this;rw[A.out];exact this
  have I:Hid (lU n p=0->∀e,ak g e->am 56 #[.agg #[ab d.1.1,ab d.1.2.1,af d.1.2.2,ae d.2.1.1 d.2.2.length d.2.1.2]] e λk m=>∃c:Tm (n+6),k=.returned (dw (n+6) c)/\Hid (ak e m/\In m.heap.size m (n+6) c/\cr (λaI=>e.heap.size<=aI) (n+6) c/\aB (n+6) c (n+6) d=true)):=λax e y=>
   ip (n+6) d g.heap.size e (j.2.1.below y) y.size (aT.2 (by have D:bE (n+6) (cd n p)=0:=(by simpa [A.out]using ax);rw[jG _ _ _ _ j.out.2.2.2];exact(bG.1 D).1))
  have av:=au j.2.2.2;have K:=au ((j.1.block _ aF).trans h);have aG:w.heap.size<g.heap.size:=(aJ.1 K).1;rw[ad];clear J V h r j ad U;generalize al:lU n p=F at*;have S:=au al;clear al A;go_wp2_with fail;refine(R _ aV).mono ?_;rintro k e ⟨rfl,N⟩;have H:Hid (ak g e):=aV.trans (N.mono (by simp));have G:Hid (ak w e):=P.trans (H.mono P.size);have C:=au (ri g _ _ _ _ _ N);have i:=au ((H.block _ aG).trans K);have aH:w.heap.size<e.heap.size:=(aJ.1 i).1;have X:e.cell? ⟨g.heap.size,0,none⟩=some (ab d.1.1):=ay C 0;have Y:e.cell? ⟨g.heap.size,1,none⟩=some (ab d.1.2.1):=ay C 1;have Z:e.cell? ⟨g.heap.size,2,none⟩=some (af d.1.2.2):=ay C 2;have aa:e.cell? ⟨g.heap.size,3,none⟩=some (ae d.2.1.1 d.2.2.length d.2.1.2):=ay C 3;clear N R K;by_cases L:F=0
  ·subst L;have aq:=au (I rfl e H);clear I;go_wp2_with fail;refine aq.mono ?_;rintro k q ⟨c,rfl,l⟩;have o:=au ((l.1.block _ aH).trans i);have Q:Hid (ak w q):=G.trans (l.1.mono G.size);have s:q.cell? ⟨w.heap.size,0,none⟩=some (ab 0):=ay o 0;have d1:q.cell? ⟨w.heap.size,1,none⟩=some (ab 0):=ay o 1;have t:q.cell? ⟨w.heap.size,2,none⟩=some (af ⟨#[]⟩):=ay o 2;have u:q.cell? ⟨w.heap.size,3,none⟩=some (ae none 0 0):=ay o 3;have ai:=λz=>dc o z;have ah:dw (n+6) c=.agg #[ab c.1.1,ab c.1.2.1,af c.1.2.2,ae c.2.1.1 c.2.2.length c.2.1.2]:=rfl;rw[ah];have ar:Hid (IY B n p w (.returned (.tuple #[.agg #[ab c.1.1,ab c.1.2.1,af c.1.2.2,ae c.2.1.1 c.2.2.length c.2.1.2],ab 0])) (di q w.heap.size 0 (ab c.1.1) (ab c.1.2.1) (af c.1.2.2) (ae c.2.1.1 c.2.2.length c.2.1.2))):=by
    refine⟨c,by rw[S.out];rfl,dO Q (ao _),?_,l.2.2.1.mono λb aA=>aj (by omega),?_⟩
    ·rw[bA];exact In.off (λb aA=>bj (by omega) _ _ _ _) l.2.2.1 l.2.1
    ·rw[show K7 n p=cd n p from by simpa using W.out];exact bM _ _ _ _ _ _ l.2.2.2 av
   clear o i l Q X Y Z aa ah W;go_wp2_with fail;exact az (v:=.tuple #[.agg #[ab c.1.1,ab c.1.2.1,af c.1.2.2,ae c.2.1.1 c.2.2.length c.2.1.2],ab 0]) (by simp[results,results37,go_sem,s,d1,t,u]) rfl ar
  ·have s:e.cell? ⟨w.heap.size,0,none⟩=some (ab 0):=ay i 0;have d1:e.cell? ⟨w.heap.size,1,none⟩=some (ab 0):=ay i 1;have t:e.cell? ⟨w.heap.size,2,none⟩=some (af ⟨#[]⟩):=ay i 2;have u:e.cell? ⟨w.heap.size,3,none⟩=some (ae none 0 0):=ay i 3;have ai:=λz=>dc i z;have aL:(F !=0)=true:=by simpa using L
   clear i I X Y Z aa;go_wp2_with fail;exact az (v:=.tuple #[.agg #[ab 0,ab 0,af .empty,ae none 0 0],ab F]) (by simp[results,results37,go_sem,s,d1,t,u];rfl) rfl (FH (dO G (ao _)) S.symm L)
theorem ey.ownAt{xs:List (Tm N)}(a:ey N B base xs v w0 wr)(c:xs.length=k)(b:ak wr W):W.ownsRow base 31 4 v k (xs.flatMap (iy N)):=by
 subst c;exact dY a.2.1 b
theorem ey.appAt{xs:List (Tm N)}(d:ey N B base xs v w0 wr)(n:xs.length=k)(f:B<=base)(l:base<=wr.heap.size)(e:ak wr W)(a:Tm N)(i:In W.heap.size W N a)(h:cr (λb=>b<B\/wr.heap.size<=b) N a)(o:w4.ownsRow base 31 4 (ae (some ⟨g,0,none⟩) (k+1) c) (k+1) (xs.flatMap (iy N)++iy N a))(m:W.grownBy w4 v.ownBlock)(j:v.ownBlock=some g\/g=W.heap.size):ey N B base (xs++ [a]) (ae (some ⟨g,0,none⟩) (k+1) c) w0 w4:=by
 subst n;exact ft.step (ei N) d f l e a i h o m j
theorem rG(a:ag)(o:Obj)(b:g=a.heap.size):(a.alloc o).drew.heap[g]?=some o:=by
 subst b;exact aF a o
theorem xH(a:ag)(o:Obj)(b:g=a.heap.size):(a.alloc o).heap[g]?=some o:=by
 subst b;exact aF a o
def PL(b:Nat)(name:ap)(a:Wd)(mv:av):cG:=⟨b,1,[af name],[ab a.1,ab a.2,mv],111⟩
def jP(Mh:aR)(ma:aw)(vs:List Wd)(a:Nat)(w:ag):Prop:=
 (ma=none/\vs=[]/\a=0)\/∃c d b,ma=some ⟨c,d,none⟩/\¬Mh c/\w.heap[c]?=some (.cells b 109 (0,0))/\vs.length<=a/\a<=maxLen/\d+a*2<=b.size/\(b.toList.drop d).take (vs.length*2)=bk vs
def j9(N:Nat)(ws:List Wd)(nm:List ap)(room:Int)(b:List Wd)(a:List (Tm N)):Prop:=
 gK ws nm N b a/\(b.flatMap (pd ws N)).Nodup/\(∀c∈a,bE N c=0/\aS N c=true)/\(a.map (sz N)).sum<=(ws.length:Int)/\(ws.length:Int)<=room/\0<=room/\room<=1000/\nm.Nodup
structure cO (base pb:Nat) (name:ap) (room:Int) (N:Nat) (s:Tm N) (ms:List (Tm N)) (xs:List (Wd×Tm N)) (nk:Nat) (M:aR) (w:ag) (ws:List Wd) (nm:List ap) (sv:Wd) (vs:List Wd) (ma:aw) (mc:Nat) (Mh:aR):Prop where
 heap:dM base (PL pb name sv (ae ma vs.length mc)) room ws nm Mh w
 mail:jP Mh ma vs mc w
 has:j9 N ws nm room (sv::vs++xs.map (·.1)) (s::ms++xs.map (·.2))
 len:vs.length=ms.length
 names:nm.length<=nk
 inM:∀b,Mh b->M b
 mailM:∀a,ma=some a->M a.block
theorem dM.box{b:cG}(e:dM base b room ws nm M w):∃tv lv mv,HB b room tv lv mv w/\∃h i,tv=ae h ws.length i:=by
 obtain⟨tv,lv,mv,f,g,_⟩:=e;refine⟨tv,lv,mv,f,?_⟩;rcases g.2 with⟨a,d⟩|⟨k,c,j,a,_⟩
 ·exact⟨none,0,by rw[a,d]⟩
 ·exact⟨_,c,a⟩
theorem PL.cells{a:Nat}{name:ap}{b:Wd}{mv:av}{room:Int}{tv lv mp:av}{w:ag}(d:HB (PL a name b mv) room tv lv mp w):w.cell? ⟨a,0,none⟩=some (af name)/\w.cell? ⟨a,5,none⟩=some (ab b.1)/\w.cell? ⟨a,5+1,none⟩=some (ab b.2)/\w.cell? ⟨a,7,none⟩=some mv/\(∀j,w.frozen? ⟨a,j,none⟩=false)/\a<w.heap.size:=by
 have c:w.heap[a]?=some (.cells #[af name,ab room,tv,lv,mp,ab b.1,ab b.2,mv] 111):=d.2;refine⟨?_,?_,?_,?_,λj=>?_,(aJ.1 c).1⟩
 all_goals simp[World.cell?,World.frozen?,c]
def nu(N:Nat)(x:Tm N)(w:ag)(e:Ending)(w':ag):Prop:=∃y:Tm N,e=.returned (dw N y)/\Hid (ak w w'/\In w'.heap.size w' N y/\cr (λq=>w.heap.size<=q) N y/\aB N y N x=true)
theorem Hr(P N:Nat)(x:Tm (N+1))(v:Wd)(w:ag)(K:Hid (∀w1,ak w w1->am 99 #[.pointer (some ⟨P,1,none⟩),.agg #[ab v.1,ab v.2]] w1 λe w'=>∃y:Tm (N+1),e=.returned (.tuple #[.agg #[ab y.1.1,ab y.1.2.1,af y.1.2.2,ae y.2.1.1 y.2.2.length y.2.1.2],ab 0])/\Hid (ak w1 w'/\In w'.heap.size w' (N+1) y/\cr (λq=>w1.heap.size<=q) (N+1) y/\aB (N+1) y (N+1) x=true))):am 64 #[aH P,.agg #[ab v.1,ab v.2]] w (nu (N+1) x w):=by
 go_enter func64,ntmps64;go_wp2_with fail;have B:=au (kw w (.cells #[ab v.1,ab v.2] 109) (.cells #[ab 0,ab 0,af ⟨#[]⟩,ae none 0 0] 31));have f:Hid (ak w ((w.alloc (.cells #[ab v.1,ab v.2] 109)).alloc (.cells #[ab 0,ab 0,af ⟨#[]⟩,ae none 0 0] 31))/\((w.alloc (.cells #[ab v.1,ab v.2] 109)).alloc (.cells #[ab 0,ab 0,af ⟨#[]⟩,ae none 0 0] 31)).heap.size=w.heap.size+1+1):=⟨by go_grown,by simp⟩;generalize M:(w.alloc _).alloc _=a;rw[M]at B f;clear M;have T:a.heap.size=w.heap.size+1+1:=f.2;have p:Hid (∀w',ak a w'->w'.cell? ⟨w.heap.size,0,none⟩=some (ab v.1)/\w'.cell? ⟨w.heap.size,1,none⟩=some (ab v.2)):=λw' S=>by
  have L:=(S.block w.heap.size (by omega)).trans B.1;exact⟨ay L 0,ay L 1⟩
 obtain⟨ao,ap⟩:=p.out a (aq _ _);have z:Hid (ak a a.drew):=(aq _ _).drew;have A:Hid (ak a (a.alloc (.cells #[ab 0,ab 0,af ⟨#[]⟩,ae none 0 0] 31)).drew):=(show Below _ _ _ by go_grown);have F:Hid ((a.alloc (.cells #[ab 0,ab 0,af ⟨#[]⟩,ae none 0 0] 31)).drew.heap[a.heap.size]?=some (.cells #[ab 0,ab 0,af ⟨#[]⟩,ae none 0 0] 31)/\(a.alloc (.cells #[ab 0,ab 0,af ⟨#[]⟩,ae none 0 0] 31)).drew.heap.size=a.heap.size+1):=⟨rG a _ rfl,by simp⟩;clear T
 go_region_held3 (λw'=>w'.cell? ⟨w.heap.size,0,none⟩=some (ab v.1)/\w'.cell? ⟨w.heap.size,1,none⟩=some (ab v.2)) (first|(go_keep;done)|with_reducible exact p _ z|with_reducible exact p _ A|exact p _ h|exact E _|exact Q _ _ _ _|exact R _ _ _ _ _)
  ((first
   | (go_at_call 99;refine(K _ (f.1.trans (z.mono f.1.size))).mono ?_;rintro e w1 ⟨y,rfl,l⟩;have h:=au (z.trans (l.1.mono z.size));have E:Hid (∀o:Obj,(w1.alloc o).cell? ⟨w.heap.size,0,none⟩=some (ab v.1)/\(w1.alloc o).cell? ⟨w.heap.size,1,none⟩=some (ab v.2)):=λo=>p _ (h.trans (aV.mono h.size));have R:Hid (∀(o:Obj)(m b c n:av),(di (w1.alloc o) w1.heap.size 0 m b c n).cell? ⟨w.heap.size,0,none⟩=some (ab v.1)/\(di (w1.alloc o) w1.heap.size 0 m b c n).cell? ⟨w.heap.size,1,none⟩=some (ab v.2)):=λo m b c n=>by have an:=h.size;have D:=f.2;exact⟨(bD (bj (by omega) m b c n) 0).trans (E o).1,(bD (bj (by omega) m b c n) 1).trans (E o).2⟩)
   | (go_at_call 99;refine(K _ (f.1.trans (A.mono f.1.size))).mono ?_;rintro e w1 ⟨y,rfl,l⟩;have h:=au (A.trans (l.1.mono A.size));have r:=au ((l.1.block _ (by have:=F.2;omega)).trans F.1);have ad:w1.cell? ⟨a.heap.size,0,none⟩=some (ab 0):=ay r 0;have ah:w1.cell? ⟨a.heap.size,1,none⟩=some (ab 0):=ay r 1;have ai:w1.cell? ⟨a.heap.size,2,none⟩=some (af ⟨#[]⟩):=ay r 2;have aj:w1.cell? ⟨a.heap.size,3,none⟩=some (ae none 0 0):=ay r 3;have al:=λu=>dc r u;have Q:Hid (∀m b c n:av,(di w1 a.heap.size 0 m b c n).cell? ⟨w.heap.size,0,none⟩=some (ab v.1)/\(di w1 a.heap.size 0 m b c n).cell? ⟨w.heap.size,1,none⟩=some (ab v.2)):=λm b c n=>⟨(bD (bj (by have:=f.2;omega) m b c n) 0).trans (p _ h).1,(bD (bj (by have:=f.2;omega) m b c n) 1).trans (p _ h).2⟩)))
 ·have D:=f.2;have i:Hid ((w1.alloc (.cells #[ab y.1.1,ab y.1.2.1,af y.1.2.2,ae y.2.1.1 y.2.2.length y.2.1.2] 31)).heap[w.heap.size+1]?=some (.cells #[ab 0,ab 0,af ⟨#[]⟩,ae none 0 0] 31)):=(aV.block _ (by have:=h.size;omega)).trans ((h.block _ (by omega)).trans B.2);have k:Hid ((w1.alloc (.cells #[ab y.1.1,ab y.1.2.1,af y.1.2.2,ae y.2.1.1 y.2.2.length y.2.1.2] 31)).heap[w1.heap.size]?=some (.cells #[ab y.1.1,ab y.1.2.1,af y.1.2.2,ae y.2.1.1 y.2.2.length y.2.1.2] 31)):=aF _ _;have j:Hid (ak w (w1.alloc (.cells #[ab y.1.1,ab y.1.2.1,af y.1.2.2,ae y.2.1.1 y.2.2.length y.2.1.2] 31))/\In (w1.alloc (.cells #[ab y.1.1,ab y.1.2.1,af y.1.2.2,ae y.2.1.1 y.2.2.length y.2.1.2] 31)).heap.size (w1.alloc (.cells #[ab y.1.1,ab y.1.2.1,af y.1.2.2,ae y.2.1.1 y.2.2.length y.2.1.2] 31)) (N+1) y/\cr (λq=>w.heap.size+2<=q) (N+1) y):=⟨(f.1.trans (h.mono f.1.size)).trans (aV.mono (f.1.trans (h.mono f.1.size)).size),(l.2.1.below aV).mono (by simp),l.2.2.1.mono λq (C:a.heap.size<=q)=>by omega⟩;have s:Hid (∃d,d=(w1.alloc (.cells #[ab y.1.1,ab y.1.2.1,af y.1.2.2,ae y.2.1.1 y.2.2.length y.2.1.2] 31))):=⟨_,rfl⟩;obtain⟨d,t⟩:=s.out;rw[<-t]at i k j ⊢;clear t s D;have G:d.cell? ⟨w.heap.size+1,0,none⟩=some (ab 0):=ay i 0;have H:d.cell? ⟨w.heap.size+1,1,none⟩=some (ab 0):=ay i 1;have I:d.cell? ⟨w.heap.size+1,2,none⟩=some (af ⟨#[]⟩):=ay i 2;have J:d.cell? ⟨w.heap.size+1,3,none⟩=some (ae none 0 0):=ay i 3;have Z:=λu=>dc i u;have V:d.cell? ⟨w1.heap.size,0,none⟩=some (ab y.1.1):=ay k 0;have W:d.cell? ⟨w1.heap.size,1,none⟩=some (ab y.1.2.1):=ay k 1;have X:d.cell? ⟨w1.heap.size,2,none⟩=some (af y.1.2.2):=ay k 2;have Y:d.cell? ⟨w1.heap.size,3,none⟩=some (ae y.2.1.1 y.2.2.length y.2.1.2):=ay k 3;go_wp2_with fail;refine az (v:=.agg #[ab y.1.1,ab y.1.2.1,af y.1.2.2,ae y.2.1.1 y.2.2.length y.2.1.2]) (by simp[results,results64,go_sem,G,H,I,J]) rfl ?_;refine⟨y,rfl,dO j.1 (by omega),?_,j.2.2.mono λq C=>by omega,l.2.2.2⟩;have e:=In.off (w':=di d (w.heap.size+1) 0 (ab y.1.1) (ab y.1.2.1) (af y.1.2.2) (ae y.2.1.1 y.2.2.length y.2.1.2)) (λb (O:w.heap.size+2<=b)=>bj (by omega) _ _ _ _) j.2.2 j.2.1;rw[<-bA (w:=d) (g:=w.heap.size+1) (o:=0) (ab y.1.1) (ab y.1.2.1) (af y.1.2.2) (ae y.2.1.1 y.2.2.length y.2.1.2)]at e;exact e
 ·have D:=f.2;have U:=F.2;have i:Hid ((di w1 a.heap.size 0 (ab y.1.1) (ab y.1.2.1) (af y.1.2.2) (ae y.2.1.1 y.2.2.length y.2.1.2)).heap[w.heap.size+1]?=some (.cells #[ab 0,ab 0,af ⟨#[]⟩,ae none 0 0] 31)):=(bj (by omega) _ _ _ _).trans ((h.block _ (by omega)).trans B.2)
  have k:Hid ((di w1 a.heap.size 0 (ab y.1.1) (ab y.1.2.1) (af y.1.2.2) (ae y.2.1.1 y.2.2.length y.2.1.2)).heap[a.heap.size]?=some (.cells #[ab y.1.1,ab y.1.2.1,af y.1.2.2,ae y.2.1.1 y.2.2.length y.2.1.2] 31)):=(by
   show _=_
   simp[di,World.setCell,bO,r.out])
  have j:Hid (ak w (di w1 a.heap.size 0 (ab y.1.1) (ab y.1.2.1) (af y.1.2.2) (ae y.2.1.1 y.2.2.length y.2.1.2))/\In (di w1 a.heap.size 0 (ab y.1.1) (ab y.1.2.1) (af y.1.2.2) (ae y.2.1.1 y.2.2.length y.2.1.2)).heap.size (di w1 a.heap.size 0 (ab y.1.1) (ab y.1.2.1) (af y.1.2.2) (ae y.2.1.1 y.2.2.length y.2.1.2)) (N+1) y/\cr (λq=>w.heap.size+2<=q) (N+1) y):=by
   refine⟨dO (f.1.trans (h.mono f.1.size)) (by omega),?_,l.2.2.1.mono λq C=>?_⟩
   ·rw[bA];exact In.off (λb (O:(a.alloc (.cells #[ab 0,ab 0,af ⟨#[]⟩,ae none 0 0] 31)).drew.heap.size<=b)=>bj (by omega) _ _ _ _) l.2.2.1 l.2.1
   ·have aa:(a.alloc (.cells #[ab 0,ab 0,af ⟨#[]⟩,ae none 0 0] 31)).drew.heap.size<=q:=C;omega
  have s:Hid (∃d,d=(di w1 a.heap.size 0 (ab y.1.1) (ab y.1.2.1) (af y.1.2.2) (ae y.2.1.1 y.2.2.length y.2.1.2))):=⟨_,rfl⟩;obtain⟨d,t⟩:=s.out;change Exit.then _ _ Exit.normal _ (di w1 a.heap.size 0 (ab y.1.1) (ab y.1.2.1) (af y.1.2.2) (ae y.2.1.1 y.2.2.length y.2.1.2));rw[<-t]at i k j ⊢;clear t s D U;have G:d.cell? ⟨w.heap.size+1,0,none⟩=some (ab 0):=ay i 0;have H:d.cell? ⟨w.heap.size+1,1,none⟩=some (ab 0):=ay i 1;have I:d.cell? ⟨w.heap.size+1,2,none⟩=some (af ⟨#[]⟩):=ay i 2;have J:d.cell? ⟨w.heap.size+1,3,none⟩=some (ae none 0 0):=ay i 3;have Z:=λu=>dc i u;have V:d.cell? ⟨a.heap.size,0,none⟩=some (ab y.1.1):=ay k 0;have W:d.cell? ⟨a.heap.size,1,none⟩=some (ab y.1.2.1):=ay k 1;have X:d.cell? ⟨a.heap.size,2,none⟩=some (af y.1.2.2):=ay k 2;have Y:d.cell? ⟨a.heap.size,3,none⟩=some (ae y.2.1.1 y.2.2.length y.2.1.2):=ay k 3;go_wp2_with fail;refine az (v:=.agg #[ab y.1.1,ab y.1.2.1,af y.1.2.2,ae y.2.1.1 y.2.2.length y.2.1.2]) (by simp[results,results64,go_sem,G,H,I,J]) rfl ?_;refine⟨y,rfl,dO j.1 (by omega),?_,j.2.2.mono λq C=>by omega,l.2.2.2⟩;have e:=In.off (w':=di d (w.heap.size+1) 0 (ab y.1.1) (ab y.1.2.1) (af y.1.2.2) (ae y.2.1.1 y.2.2.length y.2.1.2)) (λb (O:w.heap.size+2<=b)=>bj (by omega) _ _ _ _) j.2.2 j.2.1;rw[<-bA (w:=d) (g:=w.heap.size+1) (o:=0) (ab y.1.1) (ab y.1.2.1) (af y.1.2.2) (ae y.2.1.1 y.2.2.length y.2.1.2)]at e;exact e
theorem oQ{x:Tm n}(a:bE n x=0):aI ⟨n,x⟩:=aT.2 (bG.1 a).1
section
variable {base pb:Nat} {name:ap} {room:Int} {N:Nat} {s:Tm (N+1)} {ms:List (Tm (N+1))} {xs:List (Wd×Tm (N+1))} {nk:Nat} {M:aR} {w:ag} {ws:List Wd} {nm:List ap} {sv:Wd} {vs:List Wd} {ma:aw} {mc:Nat} {Mh:aR}
theorem cO.later(a:cO base pb name room (N+1) s ms xs nk M w ws nm sv vs ma mc Mh){w1:ag}(c:ak w w1):cO base pb name room (N+1) s ms xs nk M w1 ws nm sv vs ma mc Mh:=by
 refine⟨(a.heap.later c).mono λb c=>c.1,?_,a.has,a.len,a.names,a.inM,a.mailM⟩;rcases a.mail with g|⟨e,k,f,h,i,d,j⟩
 ·exact ai g
 ·exact aj ⟨e,k,f,h,i,(c.block e (aJ.1 d).1).trans d,j⟩
theorem cO.read(a:cO base pb name room (N+1) s ms xs nk M w ws nm sv vs ma mc Mh)(k:nk<=50000){i:Nat}{v:Wd}{x:Tm (N+1)}(e:(sv::vs++xs.map (·.1))[i]?=some v)(c:(s::ms++xs.map (·.2))[i]?=some x):am 64 #[aH pb,.agg #[ab v.1,ab v.2]] w (nu (N+1) x w):=by
 obtain⟨f,l,g,m,n,o,p,q⟩:=a.has;have b:=g x (aN c);have j:=a.names;exact Hr pb N x v w λh d=>JO (N+1) x v base (PL pb name sv (ae ma vs.length mc)) room ws nm Mh h ((a.later d).heap) (f.2 i v x e c) (oQ b.1) b.2 (by omega) (by omega)
end
theorem Er(e N:Nat)(x:Tm (N+1))(v:Wd)(w:ag)(y:e<w.heap.size)(m:w.cell? ⟨e,5,none⟩=some (ab v.1))(n:w.cell? ⟨e,5+1,none⟩=some (ab v.2))(l:Hid (∀w1,ak w w1->am 64 #[aH e,.agg #[ab v.1,ab v.2]] w1 (nu (N+1) x w1))):am 34 #[aH e] w (nu (N+1) x w):=by
 go_enter func34,ntmps34;go_wp2_with fail;refine(l _ aV).mono ?_;rintro f w1 ⟨a,rfl,d⟩;rw[show dw (N+1) a=.agg #[ab a.1.1,ab a.1.2.1,af a.1.2.2,ae a.2.1.1 a.2.2.length a.2.1.2]from rfl];have c:=au (ri w _ _ _ _ _ d.1);have k:Hid (ak w w1):=aV.trans (d.1.mono (by simp));have q:w1.cell? ⟨w.heap.size,0,none⟩=some (ab 0):=ay c 0;have r:w1.cell? ⟨w.heap.size,1,none⟩=some (ab 0):=ay c 1;have s:w1.cell? ⟨w.heap.size,2,none⟩=some (af ⟨#[]⟩):=ay c 2;have t:w1.cell? ⟨w.heap.size,3,none⟩=some (ae none 0 0):=ay c 3;have z:=λp=>dc c p;clear m n;go_wp2_with fail;refine az (v:=.agg #[ab a.1.1,ab a.1.2.1,af a.1.2.2,ae a.2.1.1 a.2.2.length a.2.1.2]) (by simp[results,results34,go_sem,q,r,s,t]) rfl ?_;have i:cr (λh=>w.heap.size+1<=h) (N+1) a:=d.2.2.1.mono λh j=>by simpa using j
 refine⟨a,rfl,dO k (ao _),?_,i.mono λh j=>by omega,d.2.2.2⟩;have f:=In.off (w':=di w1 w.heap.size 0 (ab a.1.1) (ab a.1.2.1) (af a.1.2.2) (ae a.2.1.1 a.2.2.length a.2.1.2)) (λb (u:w.heap.size+1<=b)=>bj (by omega) _ _ _ _) i d.2.1;rw[<-bA (w:=w1) (g:=w.heap.size) (o:=0) (ab a.1.1) (ab a.1.2.1) (af a.1.2.2) (ae a.2.1.1 a.2.2.length a.2.1.2)]at f;exact f
theorem jP.word(c:jP Mh ma vs a w){i:Nat}{v:Wd}(d:vs[i]?=some v):∃g b,ma=some ⟨g,b,none⟩/\g<w.heap.size/\w.cell? ⟨g,b+i*2,none⟩=some (ab v.1)/\w.cell? ⟨g,b+i*2+1,none⟩=some (ab v.2):=by
 rcases c with⟨_,j,_⟩|⟨g,b,p,m,_,f,q,_,r,n⟩
 ·rw[j]at d;simp at d
 ·have s:=(aX.1 d).1;have h:∀(l:List Wd)(i:Nat)(v:Wd),l[i]?=some v->(bk l)[i*2]?=some (ab v.1)/\(bk l)[i*2+1]?=some (ab v.2):=by
   intro l
   induction l with
   | nil=>intro i v c;simp at c
   | cons o l ih=>
    intro i v c;cases i with
    | zero=>simp at c;subst c;simp[bk,p9]
    | succ i=>
     have:=ih i v (by simpa using c);simp only[bk,bK,p9]at this ⊢;rw[show (i+1)*2=i*2+2 by omega,show i*2+2+1=(i*2+1)+2 by omega];simpa using this
  have e:∀k,k<vs.length*2->w.cell? ⟨g,b+k,none⟩=(bk vs)[k]? :=λk e=>by
   rw[<-n,jp,if_pos e,kP,mT];simp[World.cell?,f]
  refine⟨g,b,m,(aJ.1 f).1,?_,?_⟩
  ·rw[e (i*2) (by omega)];exact(h vs i v d).1
  ·rw[show b+i*2+1=b+(i*2+1) by omega,e (i*2+1) (by omega)];exact(h vs i v d).2
def EL(N:Nat)(ms:List (Tm N))(w:ag)(e:Ending)(w':ag):Prop:=∃(ys:List (Tm N))(L:Nat)(a:aw)(c:Nat),e=.returned (ae a L c)/\Hid (ys.length=L/\ey N 0 w.heap.size ys (ae a L c) w w'/\aG (λa b=>aB N a N b) ys ms=true)
theorem GV(n N:Nat)(ms:List (Tm (N+1)))(vs:List Wd)(L:Nat)(ma:aw)(ad:Nat)(w:ag)(U:Hid (vs.length=L))(D:Hid (ms.length=L))(al:L<=1000)(_hpw:n<w.heap.size)(ah:w.cell? ⟨n,7,none⟩=some (ae ma L ad))(R:Hid (∀w1,ak w w1->∀(i:Nat)(v:Wd),vs[i]?=some v->∃g s,ma=some ⟨g,s,none⟩/\g<w.heap.size/\w1.cell? ⟨g,s+i*2,none⟩=some (ab v.1)/\w1.cell? ⟨g,s+i*2+1,none⟩=some (ab v.2)))(O:Hid (∀w1,ak w w1->∀(i:Nat)(v:Wd)(x:Tm (N+1)),vs[i]?=some v->ms[i]?=some x->am 64 #[aH n,.agg #[ab v.1,ab v.2]] w1 (nu (N+1) x w1))):am 35 #[aH n] w (EL (N+1) ms w):=by
 obtain⟨aa,G,J,K,M⟩:=bW gw;have o:=au (⟨G,J,K,M⟩:_/\_/\_/\_);clear G J K M;go_enter func35,ntmps35;go_wp2_with fail;go_loopw [3,11] (λv i wr=>∃(k:Nat)(h:aw)(c:Nat)(j:List (Tm (N+1))),k<=L/\i=ab k/\v=ae h k c/\Hid (j.length=k/\ey (N+1) 0 w.heap.size j (ae h k c) w wr/\aG (λh b=>aB (N+1) h (N+1) b) j (ms.take k)=true)) (λ_ i _=>L-(intOf i).toNat)
 case atStart=>exact⟨0,none,0,[],by omega,rfl,rfl,rfl,ft.nil _,by simp[aG]⟩
 case round=>
  obtain⟨k,h,c,j,ap,rfl,rfl,e⟩:=hrel;have l:Hid (ak w wr):=e.2.1.1;by_cases H:k<L;rotate_left
  ·obtain rfl:k=L:=by omega
   go_wp2_with fail
   go_ret
   refine⟨j,k,h,c,rfl,e.1,e.2.1,?_⟩;have m:=e.2.2;rw[bF (by rw[D.out];omega)]at m;exact m
  ·obtain⟨v,z⟩:∃v,vs[k]?=some v:=⟨vs[k]'(by rw[U.out];exact H),aM _⟩;obtain⟨x,A⟩:∃x,ms[k]?=some x:=⟨ms[k]'(by rw[D.out];exact H),aM _⟩;have S:=au A;have P:Hid (∀w1,ak w w1->am 64 #[aH n,.agg #[ab v.1,ab v.2]] w1 (nu (N+1) x w1)):=λw1 y=>O w1 y k v x z A;obtain⟨g,s,rfl,an,T,d1⟩:=R wr l k v z;clear z A;have aq:(0:Int)<=(k:Int):=by omega
   have ar:(k:Int)<(L:Int):=by omega
   have ao:g<wr.heap.size:=by have:=l.size;omega
   go_wp2_with fail;refine(P _ (l.trans (aV.mono l.size))).mono ?_;rintro ai d ⟨a,rfl,p⟩;rw[show dw (N+1) a=.agg #[ab a.1.1,ab a.1.2.1,af a.1.2.2,ae a.2.1.1 a.2.2.length a.2.1.2]from rfl];have u:Hid (ak wr d):=aV.trans (p.1.mono (by simp));have f:Hid (ak wr (d.alloc (.cells #[ab a.1.1,ab a.1.2.1,af a.1.2.2,ae a.2.1.1 a.2.2.length a.2.1.2] 31))/\(d.alloc (.cells #[ab a.1.1,ab a.1.2.1,af a.1.2.2,ae a.2.1.1 a.2.2.length a.2.1.2] 31)).heap.size=d.heap.size+1/\(d.alloc (.cells #[ab a.1.1,ab a.1.2.1,af a.1.2.2,ae a.2.1.1 a.2.2.length a.2.1.2] 31)).heap[d.heap.size]?=some (.cells #[ab a.1.1,ab a.1.2.1,af a.1.2.2,ae a.2.1.1 a.2.2.length a.2.1.2] 31)/\In (d.alloc (.cells #[ab a.1.1,ab a.1.2.1,af a.1.2.2,ae a.2.1.1 a.2.2.length a.2.1.2] 31)).heap.size (d.alloc (.cells #[ab a.1.1,ab a.1.2.1,af a.1.2.2,ae a.2.1.1 a.2.2.length a.2.1.2] 31)) (N+1) a/\cr (λb=>b<0\/wr.heap.size<=b) (N+1) a):=by
    have m:ak d (d.alloc (.cells #[ab a.1.1,ab a.1.2.1,af a.1.2.2,ae a.2.1.1 a.2.2.length a.2.1.2] 31)):=aV;refine⟨u.trans (m.mono u.size),by simp,aF _ _,(p.2.1.below m).mono m.size,p.2.2.1.mono λb y=>aj ?_⟩;have:wr.heap.size+1<=b:=by simpa using y
    omega
   have B:=λ(r q:Nat)(w4:ag) Z X V=>au (e.2.1.appAt (W:=(d.alloc (.cells #[ab a.1.1,ab a.1.2.1,af a.1.2.2,ae a.2.1.1 a.2.2.length a.2.1.2] 31))) (w4:=w4) (g:=r) (c:=q) e.1 (aL _) l.size f.1 a f.2.2.2.1 f.2.2.2.2 Z X V);have C:=au (e.2.1.ownAt e.1 f.1);have av:w.heap.size<=d.heap.size:=by have:=l.size;have:=u.size;omega
   clear T d1;go_wp2_with (at_builtin;refine wpList_append_lies _ rfl _ _ 29 rfl w.heap.size 31 aa _ 4 56 underlying29 o.1 o.2.1 o.2.2.1 o.2.2.2 rfl (by decide) (ae h k c) k (j.flatMap (iy (N+1))) (by simp[Act.eval]) C ⟨d.heap.size,0,none⟩ 1 1 (iy (N+1) a) (by simp[Act.eval]) rfl (World.news_of_block (cs:= #[ab a.1.1,ab a.1.2.1,af a.1.2.2,ae a.2.1.1 a.2.2.length a.2.1.2]) (t:=31) (fr:=(0,0)) f.2.2.1) (um _ _) (by decide) (by unfold maxLen;omega) (by omega) (by have:=f.2.1;omega) (d.heap.size+1) f.2.1 ?_;intro r q w4 I F E Y;have Q:=B r q w4 I F (by rw[f.out.2.1];exact E);clear I F E Y B C);go_roundw
   case rel=>
    refine⟨k+1,some ⟨r,0,none⟩,q,j++ [a],by omega,by go_num,rfl,by rw[bw,e.out.1];rfl,Q,?_⟩;rw[dz,S.out];exact jf _ _ _ _ _ e.2.2 p.2.2.2
   case measure=>simp[intOf];omega
section
variable {base pb:Nat} {name:ap} {room:Int} {N:Nat} {s:Tm (N+1)} {ms:List (Tm (N+1))} {xs:List (Wd×Tm (N+1))} {nk:Nat} {M:aR} {w:ag} {ws:List Wd} {nm:List ap} {sv:Wd} {vs:List Wd} {ma:aw} {mc:Nat} {Mh:aR}
theorem cO.state(a:cO base pb name room (N+1) s ms xs nk M w ws nm sv vs ma mc Mh)(f:nk<=50000):am 34 #[aH pb] w (nu (N+1) s w):=by
 obtain⟨k,h,j,d,_⟩:=a.heap.box;obtain⟨_,b,c,_,_,g⟩:=PL.cells d;exact Er pb N s sv w g b c λl e=>(a.later e).read f (i:=0) (by simp) (by simp)
theorem cO.mails(a:cO base pb name room (N+1) s ms xs nk M w ws nm sv vs ma mc Mh)(n:nk<=50000)(u:ms.length<=1000):am 35 #[aH pb] w (EL (N+1) ms w):=by
 obtain⟨y,v,x,k,_⟩:=a.heap.box;obtain⟨_,_,_,e,_,o⟩:=PL.cells k;have m:=a.len;refine GV pb N ms vs vs.length ma mc w rfl m.symm (by omega) o e (λt b i r c=>?_) (λt b i r z c p=>?_)
 ·obtain⟨j,q,f,d,g,h⟩:=a.mail.word c;exact⟨j,q,f,d,(ax b _ _ d).trans g,(ax b _ _ d).trans h⟩
 ·have l:=(aX.1 c).1;exact(a.later b).read n (i:=i+1) (by rw[eL,dm,dx l];exact c) (by rw[eL,dm,dx (by omega)];exact p)
end
theorem wT(ty:TypeId)(f:w.ownsRow base 109 2 v n xs)(A:fm w ps xa)(j:ps.length=m)(G:n+m<=200000)(x:base<=w.heap.size):∃a d w',(Builtin.append_ #[100,100] ty #[v,ae xa m xc]).run Tryz.prog w=.ok (ae a (n+m) d) w'/\w'.ownsRow base 109 2 (ae a (n+m) d) (n+m) (xs++bk ps)/\w.grownBy w' v.ownBlock/\((Value.slice a (n+m) d).ownBlock=v.ownBlock\/(Value.slice a (n+m) d).ownBlock=some w.heap.size):=by
 obtain⟨l,i,B,C,D⟩:=bW lp;have q:∀{w':ag}{g:av}{k:Nat}{F:List av},w'.ownsRow base 109 2 g k F->∃o c,g=ae o k c:=λe=>by
  rcases e.2 with⟨rfl,rfl⟩|⟨r,cap,p,rfl,_⟩
  ·exact⟨none,0,rfl⟩
  ·exact⟨_,cap,rfl⟩
 rcases A with rfl|⟨ad,rfl,y⟩
 ·obtain rfl:m=0:=j.symm;obtain⟨b,cap,E,z⟩:∃b cap,v=ae b n cap/\n<=cap:=by
   rcases f.2 with⟨rfl,rfl⟩|⟨r,cap,p,rfl,_,_,e,_⟩
   ·exact⟨none,0,rfl,ao _⟩
   ·exact⟨_,cap,rfl,e⟩
  subst E;exact⟨b,cap,w,nS w _ _ ty _ _ l underlying100 underlying100 i b xa n cap xc z,by simpa [bk]using f,gI _ _,ai rfl⟩
 ·obtain⟨g,w',s,h,t,_,u⟩:=run_append_own_at (P:=Tryz.prog) w base 100 ty 109 l _ 2 16 underlying100 i B C D rfl (by decide) _ n xs f ad m xc (bk ps) (by rw[cI,j]) y (qM _) (by unfold maxLen;omega) (by omega) x;obtain⟨a,d,rfl⟩:=q h;exact⟨a,d,w',s,h,t,u⟩
theorem vZ{d:Array Oper}{o:Oper}{a:Act}{K:Act->ag->Prop}{Q:Exit->Act->ag->Prop}{E:Prop}(k:o.guard=none)(s x:Operand)(p:o.op=.call {callee:=.builtin .append,args:= #[s,x],argTypes:= #[100,100]})(t:a.eval s=v)(z:a.eval x=ae xa m xc)(q:w.ownsRow base 109 2 v n xs)(u:fm w ps xa)(l:ps.length=m)(h:n+m<=200000)(j:base<=w.heap.size)(i:∀b c w',w'.ownsRow base 109 2 (ae b (n+m) c) (n+m) (xs++bk ps)->w.grownBy w' v.ownBlock->((Value.slice b (n+m) c).ownBlock=v.ownBlock\/(Value.slice b (n+m) c).ownBlock=some w.heap.size)->K (a.put o.dst (ae b (n+m) c)) w'):if Region.wanted o (yielded d a.tmps)=true then Oper.wp Tryz.prog o a w K Q else E:=by
 have y:Region.wanted o (yielded d a.tmps)=true:=by simp[Region.wanted,k]
 rw[if_pos y];obtain⟨b,c,w',r,e,f,g⟩:=wT (xc:=xc) o.type q u l h j;unfold Oper.wp execOp;simp only[p,resolve,invoke,builtin,kV,Sem.run_pure,kU,mX,aU,ci,t,z,r];exact i _ _ _ e f g
theorem dM.turn{name:ap}{g h:Wd}{mv j:av}(l:dM base (PL a name g mv) room ws nm M w)(k:bZ (λb=>b=a) w w')(q:∀tv lv mp:av,w.heap[a]?=some (.cells #[af name,ab room,tv,lv,mp,ab g.1,ab g.2,mv] 111)->w'.heap[a]?=some (.cells #[af name,ab room,tv,lv,mp,ab h.1,ab h.2,j] 111)):dM base (PL a name h j) room ws nm M w':=by
 obtain⟨tv,lv,mp,e,i,f,m,n,o,p⟩:=l;refine⟨tv,lv,mp,⟨⟨rfl,aj rfl⟩,q tv lv mp e.2⟩,ee i k (λb c d=>?_),f.kept k (λb c d=>?_) (λb c d=>?_),m,n,o,p⟩
 ·subst d;exact nH i e (by decide) c
 ·subst d;exact nH f.1 e (by decide) c
 ·subst d;exact uf f e c
theorem jP.words(k:jP Mh ma vs a w):fm w vs ma:=by
 rcases k with⟨_,c,_⟩|⟨d,e,l,h,_,i,m,_,n,j⟩
 ·exact ai c
 ·refine aj ⟨⟨d,e,none⟩,h,λg p f=>?_⟩;have o:=(aX.1 f).1;have b:=f;rw[<-j,jp]at b;split at b
  ·rw[kP,mT]at b;have c:(⟨d,e,none⟩:Addr).add g=⟨d,e+g,none⟩:=by unfold Addr.add;split<;>simp[*]
   rw[c];simp[World.cell?,i,b]
  ·cases b
theorem j9.tidied{b:List Wd}{a:List (Tm N)}(q:j9 N ws nm room b a):j9 N (jU ws N b).2.1 nm room (jU ws N b).1 a/\((jU ws N b).2.1.length:Int)=(a.map (sz N)).sum/\(jU ws N b).1.length=b.length:=by
 obtain⟨k,w,l,z,A,x,y,m⟩:=q;obtain⟨n,o,p⟩:=D9 m k w;have i:∀c∈a,aI ⟨N,c⟩:=λc f=>oQ (l c f).1;have j:=ou (λg ws nm e=>gS N g ws nm e) a [] nm i;have t:=Bo N a [] nm;have r:=vk (λg ws nm e=>zq N g ws nm e) a [] nm i;have h:=gT (bi N) a [] nm;rw[p]at j;rw[n,o];simp only[iC]at t;refine⟨⟨⟨h,λv C c u f=>?_⟩,r.1,l,by omega,by omega,x,y,m⟩,by omega,by rw[h,k.1]⟩;obtain⟨B,d,s⟩:=j v c f;rw[u]at d;injection d with d;rw[d];exact s
theorem mO(w:ag)(b:g≠q)(o:Nat)(v:av)(j:Nat):(w.setCell ⟨q,o,none⟩ v).cell? ⟨g,j,none⟩=w.cell? ⟨g,j,none⟩:=by
 refine bD ?_ j;have c:¬q=g:=λa=>b a.symm;simp[World.setCell,bO,c]
def vw(g L:Nat):aw:=if L=0 then some ⟨g,0,none⟩else some ⟨g,2,none⟩
def CA(w:ag)(a:Nat)(b:Wd)(mv:av):ag:=((w.setCell ⟨a,5,none⟩ (ab b.1)).setCell ⟨a,5+1,none⟩ (ab b.2)).setCell ⟨a,7,none⟩ mv
theorem Ik(d:Nat)(f:Wd)(vs:List Wd)(L:Nat)(ma:aw)(t:Nat)(w:ag)(Fin:Nat->Wd->ag->ag->Prop)(Q:Hid (vs.length=L))(W:L<=1000)(q:Hid (∀w1,ak w w1->w1.cell? ⟨d,5,none⟩=some (ab f.1)/\w1.cell? ⟨d,5+1,none⟩=some (ab f.2)/\w1.cell? ⟨d,7,none⟩=some (ae ma L t)))(M:Hid (∀w1,ak w w1->fm w1 vs ma))(G:Hid (∀w1,ak w w1->∀(a:aw)(c:Nat),w1.ownsRow w.heap.size 109 2 (ae a (1+L) c) (1+L) (bk (f::vs))->am 44 #[.pointer (some ⟨d,1,none⟩),ae a (1+L) c] w1 λe w'=>∃(g:Nat)(h:Wd),e=.returned (.tuple #[ae (some ⟨g,0,none⟩) (1+L) (1+L),ab 0])/\Hid ((w'.cell? ⟨g,0,none⟩=some (ab h.1)/\w'.cell? ⟨g,1,none⟩=some (ab h.2))/\g≠d/\(∃B C D,w'.cell? ⟨d,5,none⟩=some B/\w'.cell? ⟨d,5+1,none⟩=some C/\w'.cell? ⟨d,7,none⟩=some D)/\(∀j,w'.frozen? ⟨d,j,none⟩=false)/\Fin g h w1 w'))):am 23 #[aH d] w λe w'=>e=.returned (.tuple #[])/\∃(g:Nat)(h:Wd)(w1 w2:ag),w'=(CA w2 d h (ae (vw g L) L L)).drew/\Hid (ak w w1/\Fin g h w1 w2):=by
 obtain⟨N,O,P⟩:=q.out w (aq _ _);have H:Hid (ak w w.drew):=(aq _ _).drew;have k:Hid (ak w (w.alloc (.cells #[ab f.1,ab f.2] 109)).drew/\(w.alloc (.cells #[ab f.1,ab f.2] 109)).drew.ownsRow w.heap.size 109 2 (ae (some ⟨w.heap.size,0,none⟩) 1 1) 1 (p9 f)):=by
  refine⟨by go_grown,rfl,aj ⟨w.heap.size,1, #[ab f.1,ab f.2],rfl,ao _,rG w _ rfl,ao _,by unfold maxLen;omega,rfl,rfl⟩⟩
 go_enter func23,ntmps23;go_wp2_with fail
 go_region_held3 (λw'=>w'.cell? ⟨d,5,none⟩=some (ab f.1)/\w'.cell? ⟨d,5+1,none⟩=some (ab f.2)/\w'.cell? ⟨d,7,none⟩=some (ae ma L t)) (first|(go_keep;done)|with_reducible exact q _ H|with_reducible exact q _ k.1|exact q _ r)
  ((refine vZ rfl _ _ rfl (base:=w.heap.size) (v:=ae (some ⟨w.heap.size,0,none⟩) 1 1) (n:=1) (m:=L) (xc:=t) (xs:=p9 f) (ps:=vs) (xa:=ma) (by simp[Act.eval]) (by simp[Act.eval]) k.2 (M _ k.1) Q (by omega) (by have:=k.1.size;exact this) ?_;intro u x w2 A o R;have r:Hid (ak w w2):=(k.1.trans ⟨o.os,o.tape,o.output,o.size,λb S=>o.block b (aW S k.1.size) (λe=>by simp[Value.ownBlock]at e;omega)⟩);have K:=au (show w2.ownsRow w.heap.size 109 2 (ae u (1+L) x) (1+L) (bk (f::vs))from A);clear A o R))
 have F:=au (G w2 r u x K);clear N O P;go_wp2_with fail;refine F.mono ?_;rintro e i ⟨g,h,rfl,E⟩;obtain⟨⟨y,z⟩,l,⟨B,C,D,T,U,V⟩,X,s⟩:=E;replace s:=au s;have Z:(0:Int)<1+(L:Int):=by omega
 have aa:(1:Int)<=1+(L:Int):=by omega
 have Y:d≠g:=λe=>l e.symm;have I:Hid (∀a b:av,((i.setCell ⟨d,5,none⟩ a).setCell ⟨d,5+1,none⟩ b).cell? ⟨g,0,none⟩=some (ab h.1)/\((i.setCell ⟨d,5,none⟩ a).setCell ⟨d,5+1,none⟩ b).cell? ⟨g,1,none⟩=some (ab h.2)):=λa b=>by
  have p:∀j,((i.setCell ⟨d,5,none⟩ a).setCell ⟨d,5+1,none⟩ b).cell? ⟨g,j,none⟩=i.cell? ⟨g,j,none⟩:=λj=>(mO _ l _ _ j).trans (mO _ l _ _ j);exact⟨(p _).trans y,(p _).trans z⟩
 have J:Hid (∀a b c:av,(((i.setCell ⟨d,5,none⟩ a).setCell ⟨d,5+1,none⟩ b).setCell ⟨d,7,none⟩ c).cell? ⟨g,0,none⟩=some (ab h.1)/\(((i.setCell ⟨d,5,none⟩ a).setCell ⟨d,5+1,none⟩ b).setCell ⟨d,7,none⟩ c).cell? ⟨g,1,none⟩=some (ab h.2)):=λa b c=>by
  have p:∀j,(((i.setCell ⟨d,5,none⟩ a).setCell ⟨d,5+1,none⟩ b).setCell ⟨d,7,none⟩ c).cell? ⟨g,j,none⟩=i.cell? ⟨g,j,none⟩:=λj=>(mO _ l _ _ j).trans ((mO _ l _ _ j).trans (mO _ l _ _ j));exact⟨(p _).trans y,(p _).trans z⟩
 go_wp2_with fail;go_region_held3 (λw'=>w'.cell? ⟨g,0,none⟩=some (ab h.1)/\w'.cell? ⟨g,1,none⟩=some (ab h.2)) (first|(go_keep;done)|exact I _ _|exact J _ _ _) (fail);exact dn (v:=.tuple #[]) (by simp[results]) rfl ⟨rfl,g,h,w2,i,rfl,r,s⟩
end Go.Proofs.YtmmahddlcldmiaaGreat
