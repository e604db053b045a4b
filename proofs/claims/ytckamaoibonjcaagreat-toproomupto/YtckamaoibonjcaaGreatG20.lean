/- What is proved here: plain facts and contracts that the claimed theorem stands on. No condition but those that each names. -/
import Derived.Test.YtckamaoibonjcaaGreatG19
namespace Go.Proofs.YtckamaoibonjcaaGreat
open Go.RowKit
set_option maxHeartbeats 4000000
set_option maxRecDepth 100000
theorem Dh{B N base:Nat}(xs ys:List (Tm N)){w w1 w':World}{cs:Array Value}{g L:Nat}(m:base<=w1.heap.size)(p:g=w1.heap.size)(i:L=xs.length)(n:w.heap.size<=base)(s:∀b,b<B\/base<=b->b<(w1.alloc (.cells cs 30)).heap.size->w'.heap[b]?=(w1.alloc (.cells cs 30)).heap[b]?)(r:(w1.alloc (.cells cs 30)).heap.size<=w'.heap.size)(l:ag w w')(o:cs.toList=xs.flatMap (gR N))(u:xs.length<=8)(j:∀y∈xs,In w1.heap.size w1 N y/\bV (λb=>b<B\/base<=b) N y)(q:az (λa b=>au N a N b) xs ys=true):ia B (N+1) (cR N ys) w (.returned (.agg #[.int .i64 4,.int .i64 0,.string ⟨#[]⟩,.slice (some ⟨g,0,none⟩) L L])) w':=by
 have h:=eL.lit (T:=30) (k:=4) (B:=B) (base:=base) (dL N) xs (w0:=w1) o (ol N) (by unfold maxLen;omega) m (ak _ _) j;obtain⟨a,c,d,k⟩:=dN.tells h n q s r l;injection d with e t f;subst e f i p;exact k
theorem dN.slice{N B base:Nat}{xs:List (Tm N)}{v:Value}{w0 wr:World}(b:dN N B base xs v w0 wr):∃a c,v=.slice a xs.length c:=by
 rcases b.2.1.2 with⟨rfl,d⟩|⟨f,cap,e,rfl,_⟩
 ·exact⟨none,0,by rw[d]⟩
 ·exact⟨_,_,rfl⟩
theorem tg(N:Nat)(x:Tm N):∀b∈gR N x,b.oneCell'=true:=by
 intro b a;simp[gR,ur]at a;rcases a with rfl|rfl|rfl|rfl<;>rfl
theorem yE(w:World)(x:Nd){g:Nat}(d:g=w.heap.size):∀j b,(ur x)[j]?=some b->(w.alloc (.cells #[.int .i64 x.1.1,.int .i64 x.1.2.1,.string x.1.2.2,.slice x.2.1 x.2.2.1 x.2.2.2] 30)).cell? ((⟨g,0,none⟩:Addr).add j)=some b:=by
 subst d;intro j b a;rw[eM];have:j<4:=(aL.1 a).1;have c:j=0\/j=1\/j=2\/j=3:=by omega
 rcases c with rfl|rfl|rfl|rfl<;>simp[ur]at a<;>subst a<;>simp[go_sem]
theorem dN.app{N B base k:Nat}{xs:List (Tm N)}{v:Value}{w0 wr a w4:World}{g c:Nat}(h:dN N B base xs v w0 wr)(q:xs.length=k)(i:B<=base)(n:base<=wr.heap.size)(f:ag wr a)(d:Tm N)(l:In a.heap.size a N d)(j:bV (λb=>b<B\/wr.heap.size<=b) N d){o:Obj}(r:w4.ownsRow base 30 4 (.slice (some ⟨g,0,none⟩) (k+1) c) (k+1) (xs.flatMap (gR N)++gR N d))(p:(a.alloc o).grownBy w4 v.ownBlock)(m:v.ownBlock=some g\/g=a.heap.size+1):dN N B base (xs++ [d]) (.slice (some ⟨g,0,none⟩) (k+1) c) w0 w4:=by
 subst q;have e:ag a (a.alloc o):=(ak _ _).alloc (ai _) _;exact eL.step (dL N) h i n (f.trans (e.mono f.size)) d ((l.below e).mono e.size) j r p (by simpa using m)
theorem dN.own{N B base k:Nat}{xs:List (Tm N)}{v:Value}{w0 wr b:World}(c:dN N B base xs v w0 wr)(d:xs.length=k)(a:ag wr b)(o:Obj):(b.alloc o).ownsRow base 30 4 v k (xs.flatMap (gR N)):=by
 subst d;exact dE c.2.1 (a.trans (((ak _ _).alloc (ai _) _).mono a.size))
theorem gg(w:World)(o:Obj){b:Nat}(a:b<w.heap.size):(w.alloc o).heap[b]?=w.heap[b]? :=(cV w o none).block b a (by simp)
theorem ao{w:World}{q:Nat}{cs:Array Value}{t:TypeId}(a:w.heap[q]?=some (.cells cs t))(j:Nat):w.cell? ⟨q,j,none⟩=cs[j]? :=by simp[World.cell?,a]
theorem cI{w:World}{q:Nat}{cs:Array Value}{t:TypeId}(a:w.heap[q]?=some (.cells cs t))(j:Nat):w.frozen? ⟨q,j,none⟩=false:=by simp[World.frozen?,a]
theorem jI(w:World)(a c:Obj):((w.alloc a).alloc c).heap[w.heap.size]?=some a/\((w.alloc a).alloc c).heap[w.heap.size+1]?=some c:=by
 have f:=(gg (w.alloc a) c (b:=w.heap.size) (by simp)).trans (ax w a);have d:=ax (w.alloc a) c;have e:(w.alloc a).heap.size=w.heap.size+1:=by simp
 rw[e]at d;exact⟨f,d⟩
theorem yf{w:World}{r o:Nat}{v0 v1 v2 v3:Value}{B base:Nat}(d:B<=r)(e:r<base){W:World}(a:ag W w):∀b,b<B\/base<=b->b<W.heap.size->(cE w r o v0 v1 v2 v3).heap[b]?=W.heap[b]? :=λb f c=>(aR (by omega) _ _ _ _).trans (a.block b c)
theorem dm{w W:World}{r o:Nat}{v0 v1 v2 v3:Value}(a:ag w W)(d:w.heap.size<=r):ag w (cE W r o v0 v1 v2 v3):=
 ⟨a.os,a.tape,a.output,aw a.size (dk (bf _ _ _ _).symm),λb c=>(aR (by omega) _ _ _ _).trans (a.block b c)⟩
theorem dN.tup{N B base k:Nat}{xs:List (Tm N)}{j:Option Addr}{l:Nat}{w0 wr:World}(q:dN N B base xs (.slice j k l) w0 wr):In wr.heap.size wr (N+1) ((4,0,.empty),(j,l),xs)/\bV (λb=>b<B\/base<=b) (N+1) ((4,0,.empty),(j,l),xs):=by
 obtain⟨s,c,a,m,r,e⟩:=q.lay (dL N) (ol N);injection a with n t p;subst n p;refine⟨⟨⟨by simp[dh],by simp[dh],aB _,m.1,m.2⟩,?_⟩,?_⟩
 ·rcases r with d|⟨b,o,a,i,d⟩
  ·exact ae d
  ·exact af ⟨b,o,a,i,λh g f=>⟨DW (d h g f).2 (d h g f).1,(d h g f).2⟩⟩
 ·rcases e with e|⟨b,o,a,i,e⟩
  ·exact ae e
  ·exact af ⟨b,o,a,i,λh g f=>e g (aC f)⟩
theorem xw{n B base:Nat}{s m x:Tm (n+1)}{w wr w1:World}{c:Tm (n+3)}{ys:List (Tm (n+2))}(k:B<=w.heap.size)(p:In B w (n+1) s)(o:In B w (n+1) m)(q:In B w (n+1) x)(l:ag w wr)(j:In wr.heap.size wr (n+3) c/\bV (λb=>b<B\/base<=b) (n+3) c)(u:au (n+3) c (n+3) (cR (n+2) ys)=true)(g:ag wr w1):(∀y∈[aU JW (n+2),aK (n+3) (n+1) s,aK (n+3) (n+1) m,c,aK (n+3) (n+1) x],In w1.heap.size w1 (n+3) y/\bV (λb=>b<B\/base<=b) (n+3) y)/\ az (λa b=>au (n+3) a (n+3) b) [aU JW (n+2),aK (n+3) (n+1) s,aK (n+3) (n+1) m,c,aK (n+3) (n+1) x] [aU JW (n+2),aK (n+3) (n+1) s,aK (n+3) (n+1) m,cR (n+2) ys,aK (n+3) (n+1) x]=true:=by
 have e:∀t:Tm (n+1),In B w (n+1) t->In w1.heap.size w1 (n+3) (aK (n+3) (n+1) t)/\bV (λb=>b<B\/base<=b) (n+3) (aK (n+3) (n+1) t):=λt h=>by
  have i:=nW (n+3) (n+1) (by omega) t B w h;have d:=l.trans (g.mono l.size);exact⟨(i.below (d.mono k)).mono (aw k d.size),(nU i).mono λb d=>ae d⟩
 have f:∀t:Tm (n+1),In B w (n+1) t->au (n+3) (aK (n+3) (n+1) t) (n+3) (aK (n+3) (n+1) t)=true:=λt h=>kP (nW (n+3) (n+1) (by omega) t B w h);refine⟨λy r=>?_,by simp only[az,f s p,f m o,f x q,u,dH,gT]⟩;simp only[cv,fW,gd]at r;rcases r with rfl|rfl|rfl|rfl|rfl
 ·exact⟨gJ _ _ (mL _ (by decide)) _ _,nM _ _ _⟩
 ·exact e s p
 ·exact e m o
 ·exact⟨(j.1.below g).mono g.size,j.2⟩
 ·exact e x q
theorem fT(N n:Nat)(x:Tm (n+1)):gR (N+1) (aK (N+1) (n+1) x)=gR (n+1) x:=by
 unfold gR;rw[KN]
theorem xv(n:Nat)(s m x:Tm (n+1))(a:Option Addr)(b k:Nat)(xs:List (Tm (n+2)))(c:xs.length=k):[.int .i64 2,.int .i64 0,.string ⟨#[111,110]⟩,.slice none 0 0,.int .i64 s.1.1,.int .i64 s.1.2.1,.string s.1.2.2,.slice s.2.1.1 s.2.2.length s.2.1.2,.int .i64 m.1.1,.int .i64 m.1.2.1,.string m.1.2.2,.slice m.2.1.1 m.2.2.length m.2.1.2,.int .i64 4,.int .i64 0,.string ⟨#[]⟩,.slice a k b,.int .i64 x.1.1,.int .i64 x.1.2.1,.string x.1.2.2,.slice x.2.1.1 x.2.2.length x.2.1.2]=
     List.flatMap (gR (n+3)) [aU JW (n+2),aK (n+3) (n+1) s,aK (n+3) (n+1) m,((4,0,.empty),(a,b),xs),aK (n+3) (n+1) x]:=by
 show _=gR (n+3) (aU JW (n+2))++(gR (n+3) (aK (n+3) (n+1) s)++(gR (n+3) (aK (n+3) (n+1) m)++(gR (n+3) ((4,0,.empty),(a,b),xs)++(gR (n+3) (aK (n+3) (n+1) x)++ []))));rw[fT,fT,fT,<-c];rfl
theorem lg{a c:Type}(f:a->c)(p:List a)(k:Nat)(x:a)(b:p[k]?=some x):(p.take (k+1)).map f=(p.take k).map f++ [f x]:=by
 rw[dt,b];simp
def Oh(n B:Nat)(p:List (Ac (n+1)))(w0:World)(base k:Nat)(v:Value)(wr:World):Prop:=
 ∃a,a.length=k/\dN (n+2) B base a v w0 wr/\az (λc b=>au (n+2) c (n+2) b) a ((p.take k).map (bU n))=true
theorem sR(n:Nat)(s m x:Tm (n+1))(p:List (Ac (n+1)))(len:Nat)(aB:Hid (p.length=len))(bx:len<=8)(a:Option Addr)(pc:Nat)(B:Nat)(w:World)(be:Hid (In B w (n+1) s))(ba:Hid (In B w (n+1) m))(bg:Hid (In B w (n+1) x))(bc:Hid (pe B w 11 (fM (n+1)) (gZ (n+1) B w) a p))(al:B<=w.heap.size)(ab:Tm (n+4))(a4:Hid (ab=dp n ((s,m,x),(a,pc),p))):ah 124 #[.agg #[.int .i64 s.1.1,.int .i64 s.1.2.1,.string s.1.2.2,.slice s.2.1.1 s.2.2.length s.2.1.2,.int .i64 m.1.1,.int .i64 m.1.2.1,.string m.1.2.2,.slice m.2.1.1 m.2.2.length m.2.1.2,.slice a len pc,.int .i64 x.1.1,.int .i64 x.1.2.1,.string x.1.2.2,.slice x.2.1.1 x.2.2.length x.2.1.2]] w (ia B (n+4) ab w):=by
 obtain⟨bh,ay,aC,aE,aF⟩:=bO fR;have G:=aj (⟨ay,aC,aE,aF⟩:_/\_/\_/\_);clear ay aC aE aF;go_enter Tryz.func124,Tryz.ntmps124;go_wp2_with fail;have F:=aj (jI w (.cells #[.int .i64 s.1.1,.int .i64 s.1.2.1,.string s.1.2.2,.slice s.2.1.1 s.2.2.length s.2.1.2,.int .i64 m.1.1,.int .i64 m.1.2.1,.string m.1.2.2,.slice m.2.1.1 m.2.2.length m.2.1.2,.slice a len pc,.int .i64 x.1.1,.int .i64 x.1.2.1,.string x.1.2.2,.slice x.2.1.1 x.2.2.length x.2.1.2] 147) (.cells #[.int .i64 0,.int .i64 0,.string ⟨#[]⟩,.slice none 0 0] 30));generalize R:(w.alloc _).alloc _=z;rw[R]at F;have J:Hid (ag w z/\z.heap.size=w.heap.size+2):=by
  subst R;exact⟨((ak _ _).alloc (ai _) _).alloc (by simp) _,by simp⟩
 have V:Hid (∀wr,Below (w.heap.size+2) z wr->ag w wr):=λwr y=>J.out.1.trans (y.mono (by omega));go_loopw [3,9] (λv U wr=>∃(k:Nat)(aH:Value),k<=len/\U=.int .i64 k/\aH=v/\Hid (Oh n B p z (w.heap.size+2) k aH wr)) (λ_ U _=>len-(intOf U).toNat)
 case atStart=>exact⟨0,_,by omega,rfl,rfl,[],rfl,eL.nil _,rfl⟩
 case round=>
  obtain⟨k,v,bz,rfl,rfl,Z⟩:=hrel;obtain⟨u,t,j,L⟩:∃u:List (Tm (n+2)),Hid (u.length=k)/\Hid (dN (n+2) B (w.heap.size+2) u v z wr)/\Hid (az (λa b=>au (n+2) a (n+2) b) u ((p.take k).map (bU n))=true):=Z.out;clear Z;have E:=aj (V.out wr j.out.1);have a7:w.heap.size+2<=wr.heap.size:=by have:=j.out.1.size;have:=J.out.2;omega
  by_cases a9:k<len
  ·obtain⟨e,T⟩:∃e,p[k]?=some e:=⟨p[k]'(by rw[aB.out];exact a9),aD _⟩;have aM:=aj (lg (bU n) p k e T);obtain⟨bi,po,rfl,bD,⟨bj,⟨bk,bm,bn,bo⟩,⟨bp,bq,br,bs⟩,bt,bl⟩,ax⟩:=(jO (fh (n+1)) (E.out.mono al) bc.out).ac k e T;have an:B<=wr.heap.size:=by omega
   have W:Hid (∀w1,ag wr w1->ah 155 #[.agg #[.int .i64 e.1,.int .i64 e.2.1.1.1.1,.int .i64 e.2.1.1.1.2.1,.string e.2.1.1.1.2.2,.slice e.2.1.1.2.1.1 e.2.1.1.2.2.length e.2.1.1.2.1.2,.int .i64 e.2.1.2.1.1,.int .i64 e.2.1.2.1.2.1,.string e.2.1.2.1.2.2,.slice e.2.1.2.2.1.1 e.2.1.2.2.2.length e.2.1.2.2.1.2,.string e.2.2.1,.int .i64 e.2.2.2]] w1 (ia B (n+2) (bU n e) w1)):=
    λw1 aG=>Bj n e B w1 ((fh (n+1)).below (aG.mono an) ax) (aw an aG.size)
   clear ax T;generalize bU n e=bu at*;have bA:(0:Int)<=(k:Int):=by omega
   have bB:(k:Int)<(len:Int):=by omega
   have bE:bi<wr.heap.size:=by omega
   obtain⟨l,q,C⟩:=j.out.slice;rw[t.out]at C;subst C;go_wp2_with fail;refine(W.out _ aI).mono ?_;rintro Q D ⟨i,rfl,H⟩;have K:Hid (ag wr D):=aI.trans (H.out.1.mono (by simp));have ad:dd (n+2) i=.agg #[.int .i64 i.1.1,.int .i64 i.1.2.1,.string i.1.2.2,.slice i.2.1.1 i.2.2.length i.2.1.2]:=rfl;rw[ad];have aO:=λ(o:Obj)(g c:Nat)(w4:World) bb a8 a5=>aj (j.out.app t.out (by omega) a7 K.out i H.out.2.1 (H.out.2.2.1.mono λb a6=>by simp at a6;omega) (o:=o) (g:=g) (c:=c) (w4:=w4) bb a8 a5);have bv:wr.heap.size<=D.heap.size:=K.out.size;clear ad W bj bk bm bn bo bp bq br bs bt bl;go_wp2_with (at_builtin;refine wpList_append_lies _ rfl _ _ 28 rfl (w.heap.size+2) 30 bh _ 4 56 Tryz.underlying28 G.out.1 G.out.2.1 G.out.2.2.1 G.out.2.2.2 rfl (by decide) (.slice l k q) k (u.flatMap (gR (n+2))) (by simp[Act.eval]) (j.out.own t.out K.out _) ⟨D.heap.size,0,none⟩ 1 1 (gR (n+2) i) (by simp[Act.eval]) rfl (yE D (fQ (n+2) i) rfl) (tg _ _) (by decide) (by unfold maxLen;omega) (by omega) (by simp;omega) (D.heap.size+1) (by simp) ?_;intro a2 M w4 aA av ar bC;have aN:=aO _ a2 M w4 aA av ar;clear aA av ar);go_roundw
   case rel=>exact⟨k+1,_,by omega,by go_num,rfl,u++ [i],by simp[t.out],aN.out,by rw[aM.out];exact iu _ _ _ _ _ L.out H.out.2.2.2⟩
   case measure=>simp[intOf];omega
  ·obtain rfl:k=len:=by omega
   obtain⟨l,q,C⟩:=j.out.slice;rw[t.out]at C;subst C;have f:=aj (And.intro ((j.out.1.block w.heap.size (by omega)).trans F.out.1) ((j.out.1.block (w.heap.size+1) (by omega)).trans F.out.2));have aR:wr.cell? ⟨w.heap.size,0,none⟩=some (.int .i64 s.1.1):=ao f.out.1 0;have aS:wr.cell? ⟨w.heap.size,1,none⟩=some (.int .i64 s.1.2.1):=ao f.out.1 1;have aW:wr.cell? ⟨w.heap.size,2,none⟩=some (.string s.1.2.2):=ao f.out.1 2;have aX:wr.cell? ⟨w.heap.size,3,none⟩=some (.slice s.2.1.1 s.2.2.length s.2.1.2):=ao f.out.1 3;have M:wr.cell? ⟨w.heap.size,4,none⟩=some (.int .i64 m.1.1):=ao f.out.1 4;have aY:wr.cell? ⟨w.heap.size,5,none⟩=some (.int .i64 m.1.2.1):=ao f.out.1 5;have aZ:wr.cell? ⟨w.heap.size,6,none⟩=some (.string m.1.2.2):=ao f.out.1 6;have a0:wr.cell? ⟨w.heap.size,7,none⟩=some (.slice m.2.1.1 m.2.2.length m.2.1.2):=ao f.out.1 7;have a1:wr.cell? ⟨w.heap.size,9,none⟩=some (.int .i64 x.1.1):=ao f.out.1 9;have aT:wr.cell? ⟨w.heap.size,10,none⟩=some (.int .i64 x.1.2.1):=ao f.out.1 10;have aU:wr.cell? ⟨w.heap.size,11,none⟩=some (.string x.1.2.2):=ao f.out.1 11;have aV:wr.cell? ⟨w.heap.size,12,none⟩=some (.slice x.2.1.1 x.2.2.length x.2.1.2):=ao f.out.1 12;have N:wr.cell? ⟨w.heap.size+1,0,none⟩=some (.int .i64 0):=ao f.out.2 0;have d1:wr.cell? ⟨w.heap.size+1,1,none⟩=some (.int .i64 0):=ao f.out.2 1;have O:wr.cell? ⟨w.heap.size+1,2,none⟩=some (.string ⟨#[]⟩):=ao f.out.2 2;have P:wr.cell? ⟨w.heap.size+1,3,none⟩=some (.slice none 0 0):=ao f.out.2 3;have ae:=λI=>cI f.out.2 I;have bd:w.heap.size<wr.heap.size:=by omega
   have A:w.heap.size+1<wr.heap.size:=by omega
   have X:Hid (∀d,ag wr d->(d.cell? ⟨w.heap.size,0,none⟩=some (.int .i64 s.1.1)/\d.cell? ⟨w.heap.size,1,none⟩=some (.int .i64 s.1.2.1)/\d.cell? ⟨w.heap.size,2,none⟩=some (.string s.1.2.2)/\d.cell? ⟨w.heap.size,3,none⟩=some (.slice s.2.1.1 s.2.2.length s.2.1.2))/\
     (d.cell? ⟨w.heap.size,4,none⟩=some (.int .i64 m.1.1)/\d.cell? ⟨w.heap.size,5,none⟩=some (.int .i64 m.1.2.1)/\d.cell? ⟨w.heap.size,6,none⟩=some (.string m.1.2.2)/\d.cell? ⟨w.heap.size,7,none⟩=some (.slice m.2.1.1 m.2.2.length m.2.1.2))/\
     (d.cell? ⟨w.heap.size,9,none⟩=some (.int .i64 x.1.1)/\d.cell? ⟨w.heap.size,10,none⟩=some (.int .i64 x.1.2.1)/\d.cell? ⟨w.heap.size,11,none⟩=some (.string x.1.2.2)/\d.cell? ⟨w.heap.size,12,none⟩=some (.slice x.2.1.1 x.2.2.length x.2.1.2))):=λd y=>by
    have h:=λo=>am y w.heap.size o bd;exact⟨⟨(h _).trans aR,(h _).trans aS,(h _).trans aW,(h _).trans aX⟩,⟨(h _).trans M,(h _).trans aY,(h _).trans aZ,(h _).trans a0⟩,(h _).trans a1,(h _).trans aT,(h _).trans aU,(h _).trans aV⟩
   have aa:Hid True:=trivial;have aK:=λ(w1:World)(a3:ag wr w1)=>aj (xw (base:=w.heap.size+2) (ys:=p.map (bU n)) (w1:=w1) al be.out ba.out bg.out E.out j.out.tup (cW rfl (by have y:=L.out;rw[bw (by rw[aB.out];omega)]at y;exact y)) a3);have aL:=aj t.out;clear R j t L f V J F;go_wp2_with fail
   go_region_held3 (λd=>(d.cell? ⟨w.heap.size,0,none⟩=some (.int .i64 s.1.1)/\d.cell? ⟨w.heap.size,1,none⟩=some (.int .i64 s.1.2.1)/\d.cell? ⟨w.heap.size,2,none⟩=some (.string s.1.2.2)/\d.cell? ⟨w.heap.size,3,none⟩=some (.slice s.2.1.1 s.2.2.length s.2.1.2))/\
       (d.cell? ⟨w.heap.size,4,none⟩=some (.int .i64 m.1.1)/\d.cell? ⟨w.heap.size,5,none⟩=some (.int .i64 m.1.2.1)/\d.cell? ⟨w.heap.size,6,none⟩=some (.string m.1.2.2)/\d.cell? ⟨w.heap.size,7,none⟩=some (.slice m.2.1.1 m.2.2.length m.2.1.2))/\
       (d.cell? ⟨w.heap.size,9,none⟩=some (.int .i64 x.1.1)/\d.cell? ⟨w.heap.size,10,none⟩=some (.int .i64 x.1.2.1)/\d.cell? ⟨w.heap.size,11,none⟩=some (.string x.1.2.2)/\d.cell? ⟨w.heap.size,12,none⟩=some (.slice x.2.1.1 x.2.2.length x.2.1.2))) (first|(go_keep;done)|exact X.out _ r.out|(refine X.out _ ?_;go_grown;done))
    ((first
     | (go_at_call 87;refine(ic _ _).mono ?_;rintro Q w1 ⟨rfl,rfl⟩)
     | (go_at_call 89;have aQ:=aa;clear aa;refine(fl _ _ _ _).mono ?_;rintro Q w1 ⟨rfl,rfl⟩)
     | (go_at_call 89;clear aQ;refine(fl _ _ _ _).mono ?_;rintro Q aJ ⟨rfl,S⟩;have r:=aj (show ag wr aJ by rw[S];go_grown);have aP:=aj S;clear S;replace N:=(am r.out _ _ A).trans N;replace d1:=(am r.out _ _ A).trans d1;replace O:=(am r.out _ _ A).trans O;replace P:=(am r.out _ _ A).trans P;replace ae:=λI=>(gh r.out _ I A).trans (ae I))))
   go_wp2_with fail;refine ap (v:=.agg #[.int .i64 4,.int .i64 0,.string ⟨#[]⟩,.slice (some ⟨wr.heap.size+1+1,0,none⟩) 5 5]) (by simp[results,Tryz.results124,go_sem,N,d1,O,P]) rfl ?_;rw[a4.out];have aq:ag wr ((wr.alloc (.cells #[.int .i64 2,.int .i64 0,.string ⟨#[111,110]⟩,.slice none 0 0] 30)).alloc (.cells #[.int .i64 4,.int .i64 0,.string ⟨#[]⟩,.slice l k q] 30)):=by go_grown
   have af:Below (((wr.alloc (.cells #[.int .i64 2,.int .i64 0,.string ⟨#[111,110]⟩,.slice none 0 0] 30)).alloc (.cells #[.int .i64 4,.int .i64 0,.string ⟨#[]⟩,.slice l k q] 30)).alloc (.cells #[.int .i64 2,.int .i64 0,.string ⟨#[111,110]⟩,.slice none 0 0,.int .i64 s.1.1,.int .i64 s.1.2.1,.string s.1.2.2,.slice s.2.1.1 s.2.2.length s.2.1.2,.int .i64 m.1.1,.int .i64 m.1.2.1,.string m.1.2.2,.slice m.2.1.1 m.2.2.length m.2.1.2,.int .i64 4,.int .i64 0,.string ⟨#[]⟩,.slice l k q,.int .i64 x.1.1,.int .i64 x.1.2.1,.string x.1.2.2,.slice x.2.1.1 x.2.2.length x.2.1.2] 30)).heap.size (((wr.alloc (.cells #[.int .i64 2,.int .i64 0,.string ⟨#[111,110]⟩,.slice none 0 0] 30)).alloc (.cells #[.int .i64 4,.int .i64 0,.string ⟨#[]⟩,.slice l k q] 30)).alloc (.cells #[.int .i64 2,.int .i64 0,.string ⟨#[111,110]⟩,.slice none 0 0,.int .i64 s.1.1,.int .i64 s.1.2.1,.string s.1.2.2,.slice s.2.1.1 s.2.2.length s.2.1.2,.int .i64 m.1.1,.int .i64 m.1.2.1,.string m.1.2.2,.slice m.2.1.1 m.2.2.length m.2.1.2,.int .i64 4,.int .i64 0,.string ⟨#[]⟩,.slice l k q,.int .i64 x.1.1,.int .i64 x.1.2.1,.string x.1.2.2,.slice x.2.1.1 x.2.2.length x.2.1.2] 30)) aJ:=by rw[aP.out];go_grown
   have Y:=aK _ aq;exact Dh (B:=B) (base:=w.heap.size+2) _ _ (by have:=aq.size;omega) (by simp) rfl (by omega) (yf (by omega) (by omega) af) (aw af.size (dk (bf _ _ _ _).symm)) (dm (E.out.trans (r.out.mono E.out.size)) (by omega)) (xv n s m x l q k u aL.out) (by show 5<=8;omega) Y.out.1 Y.out.2
theorem uN(n:Nat)(c:Cl (n+1))(B:Nat)(w:World)(a:gE (n+1) B w c)(e:c.2.2.length<=8)(f:B<=w.heap.size):ah 124 #[.agg (eE (n+1) c).toArray] w (ia B (n+4) (dp n c) w):=by
 obtain⟨⟨h,g,i⟩,⟨d,pc⟩,b⟩:=c;exact sR n h g i b b.length rfl e d pc B w a.1.1 a.1.2.1 a.1.2.2 a.2.2 f _ rfl
def Ol(n B:Nat)(d:List (Tm (n+4)))(p:List (Cl (n+1)))(w0:World)(base k:Nat)(v:Value)(wr:World):Prop:=
 ∃a,a.length=k+2/\dN (n+4) B base a v w0 wr/\az (λc b=>au (n+4) c (n+4) b) a (d++(p.take k).map (dp n))=true
theorem pL(n:Nat)(s:ByteArray)(a7:s.size<=maxLen)(p:List (Cl (n+1)))(len:Nat)(aF:Hid (p.length=len))(bu:len<=6)(aZ:Hid (∀c∈p,c.2.2.length<=8))(a:Option Addr)(pc:Nat)(B:Nat)(w:World)(a6:Hid (pe B w 13 (eE (n+1)) (gE (n+1) B w) a p))(a0:B<=w.heap.size)(ad:Tm (n+5))(a1:Hid (ad=dz n (s,(a,pc),p))):ah 88 #[.agg #[.string s,.slice a len pc]] w (ia B (n+5) ad w):=by
 obtain⟨a9,aB,aH,aJ,aK⟩:=bO fR;have A:=aj (⟨aB,aH,aJ,aK⟩:_/\_/\_/\_);clear aB aH aJ aK;go_enter Tryz.func88,Tryz.ntmps88;go_wp2_with fail;have O:=aj (jI w (.cells #[.string s,.slice a len pc] 138) (.cells #[.int .i64 0,.int .i64 0,.string ⟨#[]⟩,.slice none 0 0] 30)).2;have z:=aj (jI w (.cells #[.string s,.slice a len pc] 138) (.cells #[.int .i64 0,.int .i64 0,.string ⟨#[]⟩,.slice none 0 0] 30)).1;generalize S:(w.alloc _).alloc _=e;rw[S]at O z;have j:Hid (ag w e/\e.heap.size=w.heap.size+2):=by
  subst S;exact⟨((ak _ _).alloc (ai _) _).alloc (by simp) _,by simp⟩
 have aN:Hid (∀wr,Below (w.heap.size+2) e wr->ag w wr):=λwr h=>j.out.1.trans (h.mono (by omega));clear S;have ae:e.cell? ⟨w.heap.size,0,none⟩=some (.string s):=ao z.out 0;have af:e.cell? ⟨w.heap.size,1,none⟩=some (.slice a len pc):=ao z.out 1;have aG:w.heap.size<e.heap.size:=by have:=j.out.2;omega
 have M:Hid (∀w',ag e w'->w'.cell? ⟨w.heap.size,0,none⟩=some (.string s)/\w'.cell? ⟨w.heap.size,1,none⟩=some (.slice a len pc)):=λw' h=>⟨(am h _ _ aG).trans ae,(am h _ _ aG).trans af⟩;clear z
 go_region_held3 (λw'=>w'.cell? ⟨w.heap.size,0,none⟩=some (.string s)/\w'.cell? ⟨w.heap.size,1,none⟩=some (.slice a len pc)) (first|(go_keep;done)|(refine M.out _ ?_;go_grown;done))
  ((go_at_call 87;refine(ic _ _).mono ?_;rintro D w1 ⟨rfl,rfl⟩))
 have aa:Hid (az (λa b=>au (n+4) a (n+4) b) [aU sT (n+3),aU s (n+3)] ([aU sT (n+3),aU s (n+3)]++(p.take 0).map (dp n))=true):=by
  show _=true;simp[az,dH]
 have L:Hid (dN (n+4) B (w.heap.size+2) [aU sT (n+3),aU s (n+3)] (.slice (some ⟨e.heap.size+1+1,0,none⟩) 2 2) e (((e.alloc (.cells #[.int .i64 2,.int .i64 0,.string ⟨#[98,101,104]⟩,.slice none 0 0] 30)).alloc (.cells #[.int .i64 2,.int .i64 0,.string s,.slice none 0 0] 30)).alloc (.cells #[.int .i64 2,.int .i64 0,.string ⟨#[98,101,104]⟩,.slice none 0 0,.int .i64 2,.int .i64 0,.string s,.slice none 0 0] 30)).drew):=by
  have h:=eL.lit (T:=30) (k:=4) (B:=B) (base:=w.heap.size+2) (dL (n+4)) [aU sT (n+3),aU s (n+3)] (w0:=e) (w1:=(e.alloc (.cells #[.int .i64 2,.int .i64 0,.string ⟨#[98,101,104]⟩,.slice none 0 0] 30)).alloc (.cells #[.int .i64 2,.int .i64 0,.string s,.slice none 0 0] 30)) (cs:= #[.int .i64 2,.int .i64 0,.string ⟨#[98,101,104]⟩,.slice none 0 0,.int .i64 2,.int .i64 0,.string s,.slice none 0 0]) rfl (ol _) (by show 2<=maxLen;unfold maxLen;omega) (by have:=j.out.2;simp;omega) (((ak _ _).alloc (by have:=j.out.2;omega) _).alloc (by have:=j.out.2;simp;omega) _) (λd m=>by
   simp only[cv,fW,gd]at m;rcases m with rfl|rfl
   ·exact⟨gJ _ _ (mL _ (by decide)) _ _,nM _ _ _⟩
   ·exact⟨gJ _ _ a7 _ _,nM _ _ _⟩)
  have D:((e.alloc (.cells #[.int .i64 2,.int .i64 0,.string ⟨#[98,101,104]⟩,.slice none 0 0] 30)).alloc (.cells #[.int .i64 2,.int .i64 0,.string s,.slice none 0 0] 30)).heap.size=e.heap.size+1+1:=by simp
  rw[D]at h;exact h.later (dL _) (by have:=j.out.2;simp;omega) (ak _ _).drew
 have N:=aj (M.out _ (show ag e (((e.alloc (.cells #[.int .i64 2,.int .i64 0,.string ⟨#[98,101,104]⟩,.slice none 0 0] 30)).alloc (.cells #[.int .i64 2,.int .i64 0,.string s,.slice none 0 0] 30)).alloc (.cells #[.int .i64 2,.int .i64 0,.string ⟨#[98,101,104]⟩,.slice none 0 0,.int .i64 2,.int .i64 0,.string s,.slice none 0 0] 30)).drew by go_grown));generalize ar:(((e.alloc _).alloc _).alloc _).drew=aV;rw[ar]at L N;have bD:aV.cell? ⟨w.heap.size,1,none⟩=some (.slice a len pc):=N.out.2;clear ar M N ae af;go_wp2_with fail;go_loopw [3,14] (λv V wr=>∃(k:Nat)(aM:Value),k<=len/\V=.int .i64 k/\aM=v/\Hid (Ol n B ([aU sT (n+3),aU s (n+3)]) p e (w.heap.size+2) k aM wr)) (λ_ V _=>len-(intOf V).toNat)
 case atStart=>exact⟨0,_,by omega,rfl,rfl,_,rfl,L.out,aa.out⟩
 case round=>
  clear L aa;obtain⟨k,v,bv,rfl,rfl,ab⟩:=hrel;obtain⟨t,q,i,Z⟩:∃t:List (Tm (n+4)),Hid (t.length=k+2)/\Hid (dN (n+4) B (w.heap.size+2) t v e wr)/\Hid (az (λa b=>au (n+4) a (n+4) b) t (([aU sT (n+3),aU s (n+3)])++(p.take k).map (dp n))=true):=ab.out;clear ab;have K:=aj (aN.out wr i.out.1);have ax:w.heap.size+2<=wr.heap.size:=by have:=i.out.1.size;have:=j.out.2;omega
  by_cases a4:k<len
  ·obtain⟨d,m⟩:∃d,p[k]?=some d:=⟨p[k]'(by rw[aF.out];exact a4),aD _⟩;have aP:=aj (lg (dp n) p k d m);obtain⟨ba,po,rfl,bB,⟨⟨bb,bc,bh,bi⟩,⟨bj,bk,bl,bm⟩,bn,bo,bd,be,bg⟩,aA⟩:=(jO (dS (n+1)) (K.out.mono a0) a6.out).cl k d m;have aq:B<=wr.heap.size:=by omega
   have aS:=aj m
   have Y:Hid (∀w1,ag wr w1->ah 124 #[.agg #[.int .i64 d.1.1.1.1,.int .i64 d.1.1.1.2.1,.string d.1.1.1.2.2,.slice d.1.1.2.1.1 d.1.1.2.2.length d.1.1.2.1.2,.int .i64 d.1.2.1.1.1,.int .i64 d.1.2.1.1.2.1,.string d.1.2.1.1.2.2,.slice d.1.2.1.2.1.1 d.1.2.1.2.2.length d.1.2.1.2.1.2,.slice d.2.1.1 d.2.2.length d.2.1.2,.int .i64 d.1.2.2.1.1,.int .i64 d.1.2.2.1.2.1,.string d.1.2.2.1.2.2,.slice d.1.2.2.2.1.1 d.1.2.2.2.2.length d.1.2.2.2.1.2]] w1 (ia B (n+4) (dp n d) w1)):=
    λw1 F=>uN n d B w1 ((dS (n+1)).below (F.mono aq) aA) (aZ.out d (aC aS.out)) (aw aq F.size)
   clear aA m;generalize dp n d=bp at*;have bx:(0:Int)<=(k:Int):=by omega
   have bz:(k:Int)<(len:Int):=by omega
   have bC:ba<wr.heap.size:=by omega
   obtain⟨H,I,x⟩:=i.out.slice;rw[q.out]at x;subst x;go_wp2_with fail;refine(Y.out _ aI).mono ?_;rintro D y ⟨f,rfl,C⟩;have J:Hid (ag wr y):=aI.trans (C.out.1.mono (by simp));have E:dd (n+4) f=.agg #[.int .i64 f.1.1,.int .i64 f.1.2.1,.string f.1.2.2,.slice f.2.1.1 f.2.2.length f.2.1.2]:=rfl;rw[E];have aR:=λ(o:Obj)(g c:Nat)(w4:World) a5 a3 a2=>aj (i.out.app q.out (by omega) ax J.out f C.out.2.1 (C.out.2.2.1.mono λb U=>by simp at U;omega) (o:=o) (g:=g) (c:=c) (w4:=w4) a5 a3 a2);have bt:wr.heap.size<=y.heap.size:=J.out.size;clear E Y bb bc bh bi bj bk bl bm bn bo bd be bg;go_wp2_with (at_builtin;refine wpList_append_lies _ rfl _ _ 28 rfl (w.heap.size+2) 30 a9 _ 4 56 Tryz.underlying28 A.out.1 A.out.2.1 A.out.2.2.1 A.out.2.2.2 rfl (by decide) (.slice H (k+2) I) (k+2) (t.flatMap (gR (n+4))) (by simp[Act.eval]) (i.out.own q.out J.out _) ⟨y.heap.size,0,none⟩ 1 1 (gR (n+4) f) (by simp[Act.eval]) rfl (yE y (fQ (n+4) f) rfl) (tg _ _) (by decide) (by unfold maxLen;omega) (by omega) (by simp;omega) (y.heap.size+1) (by simp) ?_;intro aY aW w4 aE ay av bA;have aQ:=aR _ aY aW w4 aE ay av;clear aE ay av);go_roundw
   case rel=>exact⟨k+1,_,by omega,by go_num,rfl,t++ [f],by have:=q.out;simp;omega,aQ.out,by rw[aP.out,<-lY];exact iu _ _ _ _ _ Z.out C.out.2.2.2⟩
   case measure=>simp[intOf];omega
  ·obtain rfl:k=len:=by omega
   obtain⟨H,I,x⟩:=i.out.slice;rw[q.out]at x;subst x;have r:=aj ((i.out.1.block (w.heap.size+1) (by omega)).trans O.out);have P:wr.cell? ⟨w.heap.size+1,0,none⟩=some (.int .i64 0):=ao r.out 0;have d1:wr.cell? ⟨w.heap.size+1,1,none⟩=some (.int .i64 0):=ao r.out 1;have Q:wr.cell? ⟨w.heap.size+1,2,none⟩=some (.string ⟨#[]⟩):=ao r.out 2;have R:wr.cell? ⟨w.heap.size+1,3,none⟩=some (.slice none 0 0):=ao r.out 3;have an:=λG=>cI r.out G;have u:w.heap.size+1<wr.heap.size:=by omega
   have aO:=λ(aT w':World) U F a8=>aj (dN.tells (w:=w) (ys:=([aU sT (n+3),aU s (n+3)])++p.map (dp n)) (w':=w') (i.out.later (dL _) ax (w1:=aT) U) (by omega) (by have h:=Z.out;rw[bw (by rw[aF.out];omega)]at h;exact h) F a8);clear r O;go_wp2_with (go_at_call 89;refine(fl _ _ _ _).mono ?_;rintro D W ⟨rfl,aL⟩;have l:=aj (show ag wr W by rw[aL];go_grown);clear aL;replace P:=(am l.out _ _ u).trans P;replace d1:=(am l.out _ _ u).trans d1;replace Q:=(am l.out _ _ u).trans Q;replace R:=(am l.out _ _ u).trans R;replace an:=λG=>(gh l.out _ G u).trans (an G));refine ap (v:=.agg #[.int .i64 4,.int .i64 0,.string ⟨#[]⟩,.slice H (k+2) I]) (by simp[results,Tryz.results88,go_sem,P,d1,Q,R]) rfl ?_;rw[a1.out];obtain⟨bq,br,al,X⟩:=(aO W (cE W (w.heap.size+1) 0 (.int .i64 4) (.int .i64 0) (.string ⟨#[]⟩) (.slice H (k+2) I)) l.out (yf (by omega) (by omega) (ak _ _)) (dk (bf _ _ _ _).symm)).out (dm (K.out.trans (l.out.mono K.out.size)) (by omega));rw[q.out]at al X;injection al with aX bs E;subst aX E;exact X
theorem qM(n:Nat)(b:Bh (n+1))(B:Nat)(w:World)(a:oJ (n+1) B w b)(f:b.2.2.length<=6)(g:∀c∈b.2.2,c.2.2.length<=8)(h:B<=w.heap.size):ah 88 #[.agg (oM (n+1) b).toArray] w (ia B (n+5) (dz n b) w):=by
 obtain⟨i,⟨e,pc⟩,d⟩:=b;exact pL n i a.1 d d.length rfl f g e pc B w a.2.2 h _ rfl
def On(n B:Nat)(d:List (Tm (n+5)))(p:List (Bh (n+1)))(w0:World)(base k:Nat)(v:Value)(wr:World):Prop:=
 ∃a,a.length=k+1/\dN (n+5) B base a v w0 wr/\az (λc b=>au (n+5) c (n+5) b) a (d++(p.take k).map (dz n))=true
theorem rM(n:Nat)(p:List (Bh (n+1)))(len:Nat)(aA:Hid (p.length=len))(bb:len<=7)(ad:Hid (∀b∈p,b.2.2.length<=6/\∀c∈b.2.2,c.2.2.length<=8))(a:Option Addr)(pc:Nat)(B:Nat)(w:World)(aZ:Hid (gF (n+1) B w a p))(aS:B<=w.heap.size)(Z:Tm (n+6))(aT:Hid (Z=bR n p)):ah 59 #[.slice a len pc] w (ia B (n+6) Z w):=by
 obtain⟨a1,av,aB,aE,aF⟩:=bO fR;have y:=aj (⟨av,aB,aE,aF⟩:_/\_/\_/\_);clear av aB aE aF;go_enter Tryz.func59,Tryz.ntmps59;go_wp2_with (go_at_call 87;refine(ic _ _).mono ?_;rintro A w1 ⟨rfl,rfl⟩);have K:=aj (ax w (.cells #[.int .i64 0,.int .i64 0,.string ⟨#[]⟩,.slice none 0 0] 30));have W:Hid (az (λa b=>au (n+5) a (n+5) b) [aU mU (n+4)] ([aU mU (n+4)]++(p.take 0).map (dz n))=true):=by
  show _=true;simp[az,dH]
 generalize O:w.alloc (.cells #[.int .i64 0,.int .i64 0,.string ⟨#[]⟩,.slice none 0 0] 30)=e;rw[O]at K;have s:Hid (ag w e/\e.heap.size=w.heap.size+1):=by
  subst O;exact⟨(ak _ _).alloc (ai _) _,by simp⟩
 have aJ:Hid (∀wr,Below (w.heap.size+1) e wr->ag w wr):=λwr j=>s.out.1.trans (j.mono (by omega));clear O;have J:Hid (dN (n+5) B (w.heap.size+1) [aU mU (n+4)] (.slice (some ⟨w.heap.size+1+1,0,none⟩) 1 1) e ((e.alloc (.cells #[.int .i64 2,.int .i64 0,.string ⟨#[99,111,100,101]⟩,.slice none 0 0] 30)).alloc (.cells #[.int .i64 2,.int .i64 0,.string ⟨#[99,111,100,101]⟩,.slice none 0 0] 30))):=by
  have j:=eL.lit (T:=30) (k:=4) (B:=B) (base:=w.heap.size+1) (dL (n+5)) [aU mU (n+4)] (w0:=e) (w1:=e.alloc (.cells #[.int .i64 2,.int .i64 0,.string ⟨#[99,111,100,101]⟩,.slice none 0 0] 30)) (cs:= #[.int .i64 2,.int .i64 0,.string ⟨#[99,111,100,101]⟩,.slice none 0 0]) rfl (ol _) (by show 1<=maxLen;unfold maxLen;omega) (by have:=s.out.2;simp;omega) ((ak _ _).alloc (by have:=s.out.2;omega) _) (λd l=>by
   simp only[cv,fW,gd]at l;subst l
   exact⟨gJ _ _ (mL _ (by decide)) _ _,nM _ _ _⟩)
  have A:(e.alloc (.cells #[.int .i64 2,.int .i64 0,.string ⟨#[99,111,100,101]⟩,.slice none 0 0] 30)).heap.size=w.heap.size+1+1:=by have:=s.out.2;simp;omega
  rw[A]at j;exact j
 generalize af:(e.alloc _).alloc _=a5;rw[af]at J;clear af;go_loopw [3,10] (λv Q wr=>∃(k:Nat)(aH:Value),k<=len/\Q=.int .i64 k/\aH=v/\Hid (On n B ([aU mU (n+4)]) p e (w.heap.size+1) k aH wr)) (λ_ Q _=>len-(intOf Q).toNat)
 case atStart=>exact⟨0,_,by omega,rfl,rfl,_,rfl,J.out,W.out⟩
 case round=>
  clear J W;obtain⟨k,v,bc,rfl,rfl,X⟩:=hrel;obtain⟨r,m,h,V⟩:∃r:List (Tm (n+5)),Hid (r.length=k+1)/\Hid (dN (n+5) B (w.heap.size+1) r v e wr)/\Hid (az (λa b=>au (n+5) a (n+5) b) r (([aU mU (n+4)])++(p.take k).map (dz n))=true):=X.out;clear X;have I:=aj (aJ.out wr h.out.1);have an:w.heap.size+1<=wr.heap.size:=by have:=h.out.1.size;have:=s.out.2;omega
  by_cases aX:k<len
  ·obtain⟨d,l⟩:∃d,p[k]?=some d:=⟨p[k]'(by rw[aA.out];exact aX),aD _⟩;have aL:=aj (lg (dz n) p k d l);obtain⟨a2,po,rfl,bi,⟨a3,a4⟩,ar⟩:=(gF.below (I.out.mono aS) aZ.out).bh k d l;have ae:B<=wr.heap.size:=by omega
   have Y:=aj l
   have U:Hid (∀w1,ag wr w1->ah 88 #[.agg #[.string d.1,.slice d.2.1.1 d.2.2.length d.2.1.2]] w1 (ia B (n+5) (dz n d) w1)):=
    λw1 D=>qM n d B w1 ((dI (n+1)).below (D.mono ae) ar) (ad.out d (aC Y.out)).1 (ad.out d (aC Y.out)).2 (aw ae D.size)
   clear ar l;generalize dz n d=a6 at*;have bd:(0:Int)<=(k:Int):=by omega
   have be:(k:Int)<(len:Int):=by omega
   have bj:a2<wr.heap.size:=by omega
   obtain⟨F,G,u⟩:=h.out.slice;rw[m.out]at u;subst u;go_wp2_with fail;refine(U.out _ aI).mono ?_;rintro A x ⟨f,rfl,z⟩;have H:Hid (ag wr x):=aI.trans (z.out.1.mono (by simp));have C:dd (n+5) f=.agg #[.int .i64 f.1.1,.int .i64 f.1.2.1,.string f.1.2.2,.slice f.2.1.1 f.2.2.length f.2.1.2]:=rfl;rw[C];have aN:=λ(o:Obj)(g c:Nat)(w4:World) aY aW aV=>aj (h.out.app m.out (by omega) an H.out f z.out.2.1 (z.out.2.2.1.mono λb P=>by simp at P;omega) (o:=o) (g:=g) (c:=c) (w4:=w4) aY aW aV);have ba:wr.heap.size<=x.heap.size:=H.out.size;clear C U a3 a4;go_wp2_with (at_builtin;refine wpList_append_lies _ rfl _ _ 28 rfl (w.heap.size+1) 30 a1 _ 4 56 Tryz.underlying28 y.out.1 y.out.2.1 y.out.2.2.1 y.out.2.2.2 rfl (by decide) (.slice F (k+1) G) (k+1) (r.flatMap (gR (n+5))) (by simp[Act.eval]) (h.out.own m.out H.out _) ⟨x.heap.size,0,none⟩ 1 1 (gR (n+5) f) (by simp[Act.eval]) rfl (yE x (fQ (n+5) f) rfl) (tg _ _) (by decide) (by unfold maxLen;omega) (by omega) (by simp;omega) (x.heap.size+1) (by simp) ?_;intro aR aP w4 ay aq al bg;have aM:=aN _ aR aP w4 ay aq al;clear ay aq al);go_roundw
   case rel=>exact⟨k+1,_,by omega,by go_num,rfl,r++ [f],by have:=m.out;simp;omega,aM.out,by rw[aL.out,<-lY];exact iu _ _ _ _ _ V.out z.out.2.2.2⟩
   case measure=>simp[intOf];omega
  ·obtain rfl:k=len:=by omega
   obtain⟨F,G,u⟩:=h.out.slice;rw[m.out]at u;subst u;have q:=aj ((h.out.1.block (w.heap.size) (by omega)).trans K.out);have L:wr.cell? ⟨w.heap.size,0,none⟩=some (.int .i64 0):=ao q.out 0;have d1:wr.cell? ⟨w.heap.size,1,none⟩=some (.int .i64 0):=ao q.out 1;have M:wr.cell? ⟨w.heap.size,2,none⟩=some (.string ⟨#[]⟩):=ao q.out 2;have N:wr.cell? ⟨w.heap.size,3,none⟩=some (.slice none 0 0):=ao q.out 3;have ab:=λE=>cI q.out E;have t:w.heap.size<wr.heap.size:=by omega
   have aK:=λ(aO w':World) P D a0=>aj (dN.tells (w:=w) (ys:=([aU mU (n+4)])++p.map (dz n)) (w':=w') (h.out.later (dL _) an (w1:=aO) P) (by omega) (by have j:=V.out;rw[bw (by rw[aA.out];omega)]at j;exact j) D a0);clear q K;go_wp2_with (go_at_call 89;refine(fl _ _ _ _).mono ?_;rintro A R ⟨rfl,aG⟩;have i:=aj (show ag wr R by rw[aG];go_grown);clear aG;replace L:=(am i.out _ _ t).trans L;replace d1:=(am i.out _ _ t).trans d1;replace M:=(am i.out _ _ t).trans M;replace N:=(am i.out _ _ t).trans N;replace ab:=λE=>(gh i.out _ E t).trans (ab E));refine ap (v:=.agg #[.int .i64 4,.int .i64 0,.string ⟨#[]⟩,.slice F (k+1) G]) (by simp[results,Tryz.results59,go_sem,L,d1,M,N]) rfl ?_;rw[aT.out];obtain⟨a7,a8,aa,S⟩:=(aK R (cE R (w.heap.size) 0 (.int .i64 4) (.int .i64 0) (.string ⟨#[]⟩) (.slice F (k+1) G)) i.out (yf (by omega) (by omega) (ak _ _)) (dk (bf _ _ _ _).symm)).out (dm (I.out.trans (i.out.mono I.out.size)) (by omega));rw[m.out]at aa S;injection aa with aQ a9 C;subst aQ C;exact S
theorem sS(n:Nat)(p:List (Bh (n+1)))(a:Option Addr)(pc:Nat)(B:Nat)(w:World)(g:gF (n+1) B w a p)(d:p.length<=7)(e:∀b∈p,b.2.2.length<=6/\∀c∈b.2.2,c.2.2.length<=8)(f:B<=w.heap.size):ah 59 #[.slice a p.length pc] w (ia B (n+6) (bR n p) w):=
 rM n p p.length rfl d e a pc B w g f _ rfl
def zT(N:Nat):Tm (N+1):=((0,0,.empty),(none,0),[])
def mZ(n:Nat)(p:List (Bh (n+1))):Int:=if jP (n+1) p then bm (n+6) (bR n p)else 5
def Jt(n:Nat)(p:List (Bh (n+1))):Tm (n+6):=if mZ n p=0 then bR n p else zT (n+5)
def GS(B n:Nat)(p:List (Bh (n+1)))(w:World)(e:Ending)(w':World):Prop:=
 ∃a:Tm (n+6),e=.returned (.tuple #[dd (n+6) a,.int .i64 (mZ n p)])/\Hid (ag w w'/\In w'.heap.size w' (n+6) a/\bV (λb=>b<B\/w.heap.size<=b) (n+6) a/\au (n+6) a (n+6) (Jt n p)=true)
theorem kF(N B:Nat)(w:World):In B w (N+1) (zT N):=⟨⟨by simp[zT,dh],by simp[zT,dh],aB _,by simp[zT],by simp[zT]⟩,ae rfl⟩
theorem Eo{B n:Nat}{p:List (Bh (n+1))}{w w':World}{k:Int}(b:ag w w')(c:k=mZ n p)(a:¬k=0):GS B n p w (.returned (.tuple #[.agg #[.int .i64 0,.int .i64 0,.string .empty,.slice none 0 0],.int .i64 k])) w':=by
 subst c;refine⟨zT (n+5),rfl,b,kF _ _ _,ae rfl,?_⟩;unfold Jt;rw[if_neg a];exact kP (kF _ 0 w)
theorem wi{n:Nat}{p:List (Bh n)}(a:jP n p=true):p.length<=7/\∀b∈p,b.2.2.length<=6/\∀c∈b.2.2,c.2.2.length<=8:=by
 simp only[jP,vd,sE,ay,bT,bX]at a;refine⟨by omega,λb d=>⟨by have:=(a.2 b d).1.2;omega,λc e=>by have:=((a.2 b d).2 c e).1;omega⟩⟩
theorem qh(w:World)(v0 v1 v2 v3:Value)(t:TypeId){w':World}(a:Below (w.alloc (.cells #[v0,v1,v2,v3] t)).heap.size (w.alloc (.cells #[v0,v1,v2,v3] t)) w'):w'.heap[w.heap.size]?=some (.cells #[v0,v1,v2,v3] t):=
 (a.block _ (by simp)).trans (ax w _)
theorem Ju(n:Nat)(p:List (Bh (n+1)))(a:Option Addr)(pc:Nat)(az:p.length<=pc)(am:pc<=maxLen)(B:Nat)(w:World)(O:gF (n+1) B w a p)(E:B<=w.heap.size)(al:jP (n+1) p=true->(ar (n+6) (bR n p)).length<=2097152):ah 34 #[.slice a p.length pc] w (GS B n p w):=by
 have T:Hid (∀f,ag w f->ah 58 #[.slice a p.length pc] f λk m=>k=.returned (.bool (jP (n+1) p))/\ag f m):=
  λf x=>oU n p p.length rfl a pc B f (O.below (x.mono E)) (by unfold maxLen at am;omega) (aw E x.size)
 have J:Hid (jP (n+1) p=true->∀f,ag w f->ah 59 #[.slice a p.length pc] f (ia B (n+6) (bR n p) f)):=
  λx f D=>sS n p a pc B f (O.below (D.mono E)) (wi x).1 (wi x).2 (aw E D.size)
 have A:Hid (mZ n p=if jP (n+1) p then bm (n+6) (bR n p)else 5):=rfl;have U:=aj al;have W:Hid (Jt n p=if mZ n p=0 then bR n p else zT (n+5)):=rfl;clear O al az am;generalize p.length=len at*;generalize jP (n+1) p=aF at*;go_enter Tryz.func34,Tryz.ntmps34;go_wp2_with fail;refine(T.out _ aI).mono ?_;rintro k f ⟨rfl,M⟩;have h:=aj (qh w _ _ _ _ _ M);have r:Hid (ag w f):=aI.trans (M.mono (by simp));have aB:w.heap.size<f.heap.size:=(aA.1 h.out).1;clear M T;cases aF
 ·have s:f.cell? ⟨w.heap.size,0,none⟩=some (.int .i64 0):=ao h.out 0;have d1:f.cell? ⟨w.heap.size,1,none⟩=some (.int .i64 0):=ao h.out 1;have t:f.cell? ⟨w.heap.size,2,none⟩=some (.string ⟨#[]⟩):=ao h.out 2;have u:f.cell? ⟨w.heap.size,3,none⟩=some (.slice none 0 0):=ao h.out 3;have ae:=λz=>cI h.out z;clear J h;go_wp2_with fail;exact ap (v:=.tuple #[.agg #[.int .i64 0,.int .i64 0,.string .empty,.slice none 0 0],.int .i64 5]) (by simp[results,Tryz.results34,go_sem,s,d1,t,u];rfl) rfl (Eo (dm r.out (ai _)) (by rw[A.out];rfl) (by omega))
 ·have V:=aj (J.out rfl f r.out);go_wp2_with fail;refine V.out.mono ?_;rintro k g ⟨d,rfl,j⟩;have P:Hid (ag w g):=r.out.trans (j.out.1.mono r.out.size);have ab:dd (n+6) d=.agg #[.int .i64 d.1.1,.int .i64 d.1.2.1,.string d.1.2.2,.slice d.2.1.1 d.2.2.length d.2.1.2]:=rfl;have R:Hid (∀e,ag g e->ah 51 #[.agg #[.int .i64 d.1.1,.int .i64 d.1.2.1,.string d.1.2.2,.slice d.2.1.1 d.2.2.length d.2.1.2]] e λk m=>k=.returned (.int .i64 (mZ n p))/\ag e m):=λe y=>by
   have:=dx (n+6) d g.heap.size e (j.out.2.1.below y) y.size (by rw[jS _ _ _ _ j.out.2.2.2];exact U.out (by simp));rw[bH j.out.2.2.2]at this;rw[A.out];exact this
  have I:Hid (mZ n p=0->∀e,ag g e->ah 54 #[.agg #[.int .i64 d.1.1,.int .i64 d.1.2.1,.string d.1.2.2,.slice d.2.1.1 d.2.2.length d.2.1.2]] e λk m=>∃c:Tm (n+6),k=.returned (dd (n+6) c)/\Hid (ag e m/\In m.heap.size m (n+6) c/\bV (λaE=>e.heap.size<=aE) (n+6) c/\au (n+6) c (n+6) d=true)):=λax e y=>
   gM (n+6) d g.heap.size e (j.out.2.1.below y) y.size (aG.2 (by have D:bm (n+6) (bR n p)=0:=(by simpa [A.out]using ax);rw[iW _ _ _ _ j.out.2.2.2];exact(br.1 D).1))
  have av:=aj j.out.2.2.2;have K:=aj ((j.out.1.block _ aB).trans h.out);have aC:w.heap.size<g.heap.size:=(aA.1 K.out).1;rw[ab];clear J V h r j ab U;generalize ak:mZ n p=F at*;have S:=aj ak;clear ak A;go_wp2_with fail;refine(R.out _ aI).mono ?_;rintro k e ⟨rfl,N⟩;have H:Hid (ag g e):=aI.trans (N.mono (by simp));have G:Hid (ag w e):=P.out.trans (H.out.mono P.out.size);have C:=aj (qh g _ _ _ _ _ N);have i:=aj ((H.out.block _ aC).trans K.out);have aD:w.heap.size<e.heap.size:=(aA.1 i.out).1;have X:e.cell? ⟨g.heap.size,0,none⟩=some (.int .i64 d.1.1):=ao C.out 0;have Y:e.cell? ⟨g.heap.size,1,none⟩=some (.int .i64 d.1.2.1):=ao C.out 1;have Z:e.cell? ⟨g.heap.size,2,none⟩=some (.string d.1.2.2):=ao C.out 2;have aa:e.cell? ⟨g.heap.size,3,none⟩=some (.slice d.2.1.1 d.2.2.length d.2.1.2):=ao C.out 3;clear N R K;by_cases L:F=0
  ·subst L;have an:=aj (I.out rfl e H.out);clear I;go_wp2_with fail;refine an.out.mono ?_;rintro k q ⟨c,rfl,l⟩;have o:=aj ((l.out.1.block _ aD).trans i.out);have Q:Hid (ag w q):=G.out.trans (l.out.1.mono G.out.size);have s:q.cell? ⟨w.heap.size,0,none⟩=some (.int .i64 0):=ao o.out 0;have d1:q.cell? ⟨w.heap.size,1,none⟩=some (.int .i64 0):=ao o.out 1;have t:q.cell? ⟨w.heap.size,2,none⟩=some (.string ⟨#[]⟩):=ao o.out 2;have u:q.cell? ⟨w.heap.size,3,none⟩=some (.slice none 0 0):=ao o.out 3;have ae:=λz=>cI o.out z;have ad:dd (n+6) c=.agg #[.int .i64 c.1.1,.int .i64 c.1.2.1,.string c.1.2.2,.slice c.2.1.1 c.2.2.length c.2.1.2]:=rfl;rw[ad];have aq:Hid (GS B n p w (.returned (.tuple #[.agg #[.int .i64 c.1.1,.int .i64 c.1.2.1,.string c.1.2.2,.slice c.2.1.1 c.2.2.length c.2.1.2],.int .i64 0])) (cE q w.heap.size 0 (.int .i64 c.1.1) (.int .i64 c.1.2.1) (.string c.1.2.2) (.slice c.2.1.1 c.2.2.length c.2.1.2))):=by
    refine⟨c,by rw[S.out];rfl,dm Q.out (ai _),?_,l.out.2.2.1.mono λb ay=>af (by omega),?_⟩
    ·rw[bf];exact In.off (λb ay=>aR (by omega) _ _ _ _) l.out.2.2.1 l.out.2.1
    ·rw[show Jt n p=bR n p from by simpa using W.out];exact bM _ _ _ _ _ _ l.out.2.2.2 av.out
   clear o i l Q X Y Z aa ad W;go_wp2_with fail;exact ap (v:=.tuple #[.agg #[.int .i64 c.1.1,.int .i64 c.1.2.1,.string c.1.2.2,.slice c.2.1.1 c.2.2.length c.2.1.2],.int .i64 0]) (by simp[results,Tryz.results34,go_sem,s,d1,t,u]) rfl aq.out
  ·have s:e.cell? ⟨w.heap.size,0,none⟩=some (.int .i64 0):=ao i.out 0;have d1:e.cell? ⟨w.heap.size,1,none⟩=some (.int .i64 0):=ao i.out 1;have t:e.cell? ⟨w.heap.size,2,none⟩=some (.string ⟨#[]⟩):=ao i.out 2;have u:e.cell? ⟨w.heap.size,3,none⟩=some (.slice none 0 0):=ao i.out 3;have ae:=λz=>cI i.out z;have aH:(F !=0)=true:=by simpa using L
   clear i I X Y Z aa;go_wp2_with fail;exact ap (v:=.tuple #[.agg #[.int .i64 0,.int .i64 0,.string .empty,.slice none 0 0],.int .i64 F]) (by simp[results,Tryz.results34,go_sem,s,d1,t,u];rfl) rfl (Eo (dm G.out (ai _)) S.out.symm L)
theorem dN.ownAt{N B base k:Nat}{xs:List (Tm N)}{v:Value}{w0 wr W:World}(a:dN N B base xs v w0 wr)(c:xs.length=k)(b:ag wr W):W.ownsRow base 30 4 v k (xs.flatMap (gR N)):=by
 subst c;exact dE a.2.1 b
theorem dN.appAt{N B base k:Nat}{xs:List (Tm N)}{v:Value}{w0 wr W w4:World}{g c:Nat}(d:dN N B base xs v w0 wr)(n:xs.length=k)(f:B<=base)(l:base<=wr.heap.size)(e:ag wr W)(a:Tm N)(i:In W.heap.size W N a)(h:bV (λb=>b<B\/wr.heap.size<=b) N a)(o:w4.ownsRow base 30 4 (.slice (some ⟨g,0,none⟩) (k+1) c) (k+1) (xs.flatMap (gR N)++gR N a))(m:W.grownBy w4 v.ownBlock)(j:v.ownBlock=some g\/g=W.heap.size):dN N B base (xs++ [a]) (.slice (some ⟨g,0,none⟩) (k+1) c) w0 w4:=by
 subst n;exact eL.step (dL N) d f l e a i h o m j
theorem qw(a:World)(o:Obj){g:Nat}(b:g=a.heap.size):(a.alloc o).drew.heap[g]?=some o:=by
 subst b;exact ax a o
theorem vY(a:World)(o:Obj){g:Nat}(b:g=a.heap.size):(a.alloc o).heap[g]?=some o:=by
 subst b;exact ax a o
def PL(b:Nat)(name:ByteArray)(a:Wd)(mv:Value):cg:=⟨b,1,[.string name],[.int .i64 a.1,.int .i64 a.2,mv],107⟩
def jl(Mh:Nat->Prop)(ma:Option Addr)(vs:List Wd)(a:Nat)(w:World):Prop:=
 (ma=none/\vs=[]/\a=0)\/∃c d b,ma=some ⟨c,d,none⟩/\¬Mh c/\w.heap[c]?=some (.cells b 105 (0,0))/\vs.length<=a/\a<=maxLen/\d+a*2<=b.size/\(b.toList.drop d).take (vs.length*2)=aS vs
def jz(N:Nat)(ws:List Wd)(nm:List ByteArray)(room:Int)(b:List Wd)(a:List (Tm N)):Prop:=
 ge ws nm N b a/\(b.flatMap (od ws N)).Nodup/\(∀c∈a,bm N c=0/\aF N c=true)/\(a.map (sz N)).sum<=(ws.length:Int)/\(ws.length:Int)<=room/\0<=room/\room<=1000/\nm.Nodup
structure cr (base pb:Nat) (name:ByteArray) (room:Int) (N:Nat) (s:Tm N) (ms:List (Tm N)) (xs:List (Wd×Tm N)) (nk:Nat) (M:Nat->Prop) (w:World) (ws:List Wd) (nm:List ByteArray) (sv:Wd) (vs:List Wd) (ma:Option Addr) (mc:Nat) (Mh:Nat->Prop):Prop where
 heap:du base (PL pb name sv (.slice ma vs.length mc)) room ws nm Mh w
 mail:jl Mh ma vs mc w
 has:jz N ws nm room (sv::vs++xs.map (·.1)) (s::ms++xs.map (·.2))
 len:vs.length=ms.length
 names:nm.length<=nk
 inM:∀b,Mh b->M b
 mailM:∀a,ma=some a->M a.block
theorem du.box{base:Nat}{b:cg}{room:Int}{ws:List Wd}{nm:List ByteArray}{M:Nat->Prop}{w:World}(e:du base b room ws nm M w):∃tv lv mv,HB b room tv lv mv w/\∃h i,tv=.slice h ws.length i:=by
 obtain⟨tv,lv,mv,f,g,_⟩:=e;refine⟨tv,lv,mv,f,?_⟩;rcases g.2 with⟨a,d⟩|⟨k,c,j,a,_⟩
 ·exact⟨none,0,by rw[a,d]⟩
 ·exact⟨_,c,a⟩
theorem PL.cells{a:Nat}{name:ByteArray}{b:Wd}{mv:Value}{room:Int}{tv lv mp:Value}{w:World}(d:HB (PL a name b mv) room tv lv mp w):w.cell? ⟨a,0,none⟩=some (.string name)/\w.cell? ⟨a,5,none⟩=some (.int .i64 b.1)/\w.cell? ⟨a,5+1,none⟩=some (.int .i64 b.2)/\w.cell? ⟨a,7,none⟩=some mv/\(∀j,w.frozen? ⟨a,j,none⟩=false)/\a<w.heap.size:=by
 have c:w.heap[a]?=some (.cells #[.string name,.int .i64 room,tv,lv,mp,.int .i64 b.1,.int .i64 b.2,mv] 107):=d.2;refine⟨?_,?_,?_,?_,λj=>?_,(aA.1 c).1⟩
 all_goals simp[World.cell?,World.frozen?,c]
end Go.Proofs.YtckamaoibonjcaaGreat
