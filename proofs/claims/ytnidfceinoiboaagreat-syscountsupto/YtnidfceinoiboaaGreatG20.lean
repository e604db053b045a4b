/- What is proved here: plain facts and contracts that the claimed theorem stands on. No condition but those that each names. -/
import Derived.Test.YtnidfceinoiboaaGreatG19
namespace Go.Proofs.YtnidfceinoiboaaGreat
open Go.RowKit
set_option maxHeartbeats 4000000
set_option maxRecDepth 100000
theorem BT{B N base:Nat}(xs ys:List (Tm N)){w w1 w':World}{cs:Array Value}{g L:Nat}(m:base<=w1.heap.size)(p:g=w1.heap.size)(i:L=xs.length)(n:w.heap.size<=base)(s:∀b,b<B\/base<=b->b<(w1.alloc (.cells cs 30)).heap.size->w'.heap[b]?=(w1.alloc (.cells cs 30)).heap[b]?)(r:(w1.alloc (.cells cs 30)).heap.size<=w'.heap.size)(l:Below w.heap.size w w')(o:cs.toList=xs.flatMap (gq N))(u:xs.length<=8)(j:∀y∈xs,In w1.heap.size w1 N y/\ch (λb=>b<B\/base<=b) N y)(q:av (λa b=>aw N a N b) xs ys=true):gU B (N+1) (cM N ys) w (.returned (.agg #[.int .i64 4,.int .i64 0,.string ⟨#[]⟩,.slice (some ⟨g,0,none⟩) L L])) w':=by
 have h:=eN.lit (T:=30) (k:=4) (B:=B) (base:=base) (dM N) xs (w0:=w1) o (mj N) (by unfold maxLen;omega) m (ah _ _) j;obtain⟨a,c,d,k⟩:=dQ.tells h n q s r l;injection d with e t f;subst e f i p;exact k
theorem dQ.slice{N B base:Nat}{xs:List (Tm N)}{v:Value}{w0 wr:World}(b:dQ N B base xs v w0 wr):∃a c,v=.slice a xs.length c:=by
 rcases b.2.1.2 with⟨rfl,d⟩|⟨f,cap,e,rfl,_⟩
 ·exact⟨none,0,by rw[d]⟩
 ·exact⟨_,_,rfl⟩
theorem sq(N:Nat)(x:Tm N):∀u∈gq N x,u.oneCell'=true:=by
 intro u a;simp[gq,vj]at a;rcases a with rfl|rfl|rfl|rfl<;>rfl
theorem xy(w:World)(x:Nd){g:Nat}(c:g=w.heap.size):∀j u,(vj x)[j]?=some u->(w.alloc (.cells #[.int .i64 x.1.1,.int .i64 x.1.2.1,.string x.1.2.2,.slice x.2.1 x.2.2.1 x.2.2.2] 30)).cell? ((⟨g,0,none⟩:Addr).add j)=some u:=by
 subst c;intro j u a;rw[fi];have:j<4:=(aK.1 a).1;have b:j=0\/j=1\/j=2\/j=3:=by omega
 rcases b with rfl|rfl|rfl|rfl<;>simp[vj]at a<;>subst a<;>simp[go_sem]
theorem dQ.app{N B base k:Nat}{xs:List (Tm N)}{v:Value}{w0 wr a w4:World}{g c:Nat}(h:dQ N B base xs v w0 wr)(q:xs.length=k)(i:B<=base)(n:base<=wr.heap.size)(f:Below wr.heap.size wr a)(d:Tm N)(l:In a.heap.size a N d)(j:ch (λb=>b<B\/wr.heap.size<=b) N d){o:Obj}(r:w4.ownsRow base 30 4 (.slice (some ⟨g,0,none⟩) (k+1) c) (k+1) (xs.flatMap (gq N)++gq N d))(p:(a.alloc o).grownBy w4 v.ownBlock)(m:v.ownBlock=some g\/g=a.heap.size+1):dQ N B base (xs++ [d]) (.slice (some ⟨g,0,none⟩) (k+1) c) w0 w4:=by
 subst q;have e:Below a.heap.size a (a.alloc o):=(ah _ _).alloc (ag _) _;exact eN.step (dM N) h i n (f.trans (e.mono f.size)) d ((l.below e).mono e.size) j r p (by simpa using m)
theorem dQ.own{N B base k:Nat}{xs:List (Tm N)}{v:Value}{w0 wr b:World}(c:dQ N B base xs v w0 wr)(d:xs.length=k)(a:Below wr.heap.size wr b)(o:Obj):(b.alloc o).ownsRow base 30 4 v k (xs.flatMap (gq N)):=by
 subst d;exact dF c.2.1 (a.trans (((ah _ _).alloc (ag _) _).mono a.size))
theorem fO(w:World)(o:Obj){b:Nat}(a:b<w.heap.size):(w.alloc o).heap[b]?=w.heap[b]? :=(dq w o none).block b a (by simp)
theorem am{w:World}{q:Nat}{cs:Array Value}{t:TypeId}(a:w.heap[q]?=some (.cells cs t))(j:Nat):w.cell? ⟨q,j,none⟩=cs[j]? :=by simp[World.cell?,a]
theorem cG{w:World}{q:Nat}{cs:Array Value}{t:TypeId}(a:w.heap[q]?=some (.cells cs t))(j:Nat):w.frozen? ⟨q,j,none⟩=false:=by simp[World.frozen?,a]
theorem jz(w:World)(a c:Obj):((w.alloc a).alloc c).heap[w.heap.size]?=some a/\((w.alloc a).alloc c).heap[w.heap.size+1]?=some c:=by
 have f:=(fO (w.alloc a) c (b:=w.heap.size) (by simp)).trans (ax w a);have d:=ax (w.alloc a) c;have e:(w.alloc a).heap.size=w.heap.size+1:=by simp
 rw[e]at d;exact⟨f,d⟩
theorem wW{w:World}{r o:Nat}{v0 v1 v2 v3:Value}{B base:Nat}(d:B<=r)(e:r<base){W:World}(a:Below W.heap.size W w):∀b,b<B\/base<=b->b<W.heap.size->(cP w r o v0 v1 v2 v3).heap[b]?=W.heap[b]? :=λb f c=>(aO (by omega) _ _ _ _).trans (a.block b c)
theorem dB{w W:World}{r o:Nat}{v0 v1 v2 v3:Value}(a:Below w.heap.size w W)(d:w.heap.size<=r):Below w.heap.size w (cP W r o v0 v1 v2 v3):=
 ⟨a.os,a.tape,a.output,au a.size (dp (aZ _ _ _ _).symm),λb c=>(aO (by omega) _ _ _ _).trans (a.block b c)⟩
theorem dQ.tup{N B base k:Nat}{xs:List (Tm N)}{j:Option Addr}{l:Nat}{w0 wr:World}(q:dQ N B base xs (.slice j k l) w0 wr):In wr.heap.size wr (N+1) ((4,0,.empty),(j,l),xs)/\ch (λb=>b<B\/base<=b) (N+1) ((4,0,.empty),(j,l),xs):=by
 obtain⟨s,c,a,m,r,e⟩:=q.lay (dM N) (mj N);injection a with n t p;subst n p;refine⟨⟨⟨by simp[dc],by simp[dc],aD _,m.1,m.2⟩,?_⟩,?_⟩
 ·rcases r with d|⟨b,o,a,i,d⟩
  ·exact ae d
  ·exact af ⟨b,o,a,i,λh g f=>⟨Cw (d h g f).2 (d h g f).1,(d h g f).2⟩⟩
 ·rcases e with e|⟨b,o,a,i,e⟩
  ·exact ae e
  ·exact af ⟨b,o,a,i,λh g f=>e g (ay f)⟩
theorem wi{n B base:Nat}{s m x:Tm (n+1)}{w wr w1:World}{c:Tm (n+3)}{ys:List (Tm (n+2))}(k:B<=w.heap.size)(p:In B w (n+1) s)(o:In B w (n+1) m)(q:In B w (n+1) x)(l:Below w.heap.size w wr)(j:In wr.heap.size wr (n+3) c/\ch (λb=>b<B\/base<=b) (n+3) c)(u:aw (n+3) c (n+3) (cM (n+2) ys)=true)(g:Below wr.heap.size wr w1):(∀y∈[aQ B5 (n+2),aI (n+3) (n+1) s,aI (n+3) (n+1) m,c,aI (n+3) (n+1) x],In w1.heap.size w1 (n+3) y/\ch (λb=>b<B\/base<=b) (n+3) y)/\ av (λa b=>aw (n+3) a (n+3) b) [aQ B5 (n+2),aI (n+3) (n+1) s,aI (n+3) (n+1) m,c,aI (n+3) (n+1) x] [aQ B5 (n+2),aI (n+3) (n+1) s,aI (n+3) (n+1) m,cM (n+2) ys,aI (n+3) (n+1) x]=true:=by
 have e:∀t:Tm (n+1),In B w (n+1) t->In w1.heap.size w1 (n+3) (aI (n+3) (n+1) t)/\ch (λb=>b<B\/base<=b) (n+3) (aI (n+3) (n+1) t):=λt h=>by
  have i:=nE (n+3) (n+1) (by omega) t B w h;have d:=l.trans (g.mono l.size);exact⟨(i.below (d.mono k)).mono (au k d.size),(nA i).mono λb d=>ae d⟩
 have f:∀t:Tm (n+1),In B w (n+1) t->aw (n+3) (aI (n+3) (n+1) t) (n+3) (aI (n+3) (n+1) t)=true:=λt h=>kL (nE (n+3) (n+1) (by omega) t B w h);refine⟨λy r=>?_,by simp only[av,f s p,f m o,f x q,u,df,gH]⟩;simp only[br,dv,dx]at r;rcases r with rfl|rfl|rfl|rfl|rfl
 ·exact⟨eO _ _ (gF _ (by decide)) _ _,np _ _ _⟩
 ·exact e s p
 ·exact e m o
 ·exact⟨(j.1.below g).mono g.size,j.2⟩
 ·exact e x q
theorem fI(N n:Nat)(x:Tm (n+1)):gq (N+1) (aI (N+1) (n+1) x)=gq (n+1) x:=by
 unfold gq;rw[IU]
theorem wh(n:Nat)(s m x:Tm (n+1))(a:Option Addr)(b k:Nat)(xs:List (Tm (n+2)))(c:xs.length=k):[.int .i64 2,.int .i64 0,.string ⟨#[111,110]⟩,.slice none 0 0,.int .i64 s.1.1,.int .i64 s.1.2.1,.string s.1.2.2,.slice s.2.1.1 s.2.2.length s.2.1.2,.int .i64 m.1.1,.int .i64 m.1.2.1,.string m.1.2.2,.slice m.2.1.1 m.2.2.length m.2.1.2,.int .i64 4,.int .i64 0,.string ⟨#[]⟩,.slice a k b,.int .i64 x.1.1,.int .i64 x.1.2.1,.string x.1.2.2,.slice x.2.1.1 x.2.2.length x.2.1.2]=
     List.flatMap (gq (n+3)) [aQ B5 (n+2),aI (n+3) (n+1) s,aI (n+3) (n+1) m,((4,0,.empty),(a,b),xs),aI (n+3) (n+1) x]:=by
 show _=gq (n+3) (aQ B5 (n+2))++(gq (n+3) (aI (n+3) (n+1) s)++(gq (n+3) (aI (n+3) (n+1) m)++(gq (n+3) ((4,0,.empty),(a,b),xs)++(gq (n+3) (aI (n+3) (n+1) x)++ []))));rw[fI,fI,fI,<-c];rfl
theorem kX{a c:Type}(f:a->c)(p:List a)(k:Nat)(x:a)(b:p[k]?=some x):(p.take (k+1)).map f=(p.take k).map f++ [f x]:=by
 rw[dw,b];simp
def Mk(n B:Nat)(p:List (Ac (n+1)))(w0:World)(base k:Nat)(v:Value)(wr:World):Prop:=
 ∃a,a.length=k/\dQ (n+2) B base a v w0 wr/\av (λc b=>aw (n+2) c (n+2) b) a ((p.take k).map (de n))=true
theorem rV(n:Nat)(s m x:Tm (n+1))(p:List (Ac (n+1)))(len:Nat)(az:Hid (p.length=len))(bv:len<=8)(a:Option Addr)(pc:Nat)(B:Nat)(w:World)(bd:Hid (In B w (n+1) s))(a9:Hid (In B w (n+1) m))(be:Hid (In B w (n+1) x))(bb:Hid (oF B w 11 (fy (n+1)) (gQ (n+1) B w) a p))(ak:B<=w.heap.size)(ab:Tm (n+4))(a3:Hid (ab=eD n ((s,m,x),(a,pc),p))):Calls Tryz.prog 112 #[.agg #[.int .i64 s.1.1,.int .i64 s.1.2.1,.string s.1.2.2,.slice s.2.1.1 s.2.2.length s.2.1.2,.int .i64 m.1.1,.int .i64 m.1.2.1,.string m.1.2.2,.slice m.2.1.1 m.2.2.length m.2.1.2,.slice a len pc,.int .i64 x.1.1,.int .i64 x.1.2.1,.string x.1.2.2,.slice x.2.1.1 x.2.2.length x.2.1.2]] w (gU B (n+4) ab w):=by
 obtain⟨bf,ax,aB,aC,aD⟩:=bM gA;have G:=ai (⟨ax,aB,aC,aD⟩:_/\_/\_/\_);clear ax aB aC aD;go_enter Tryz.func112,Tryz.ntmps112;go_wp2_with fail;have F:=ai (jz w (.cells #[.int .i64 s.1.1,.int .i64 s.1.2.1,.string s.1.2.2,.slice s.2.1.1 s.2.2.length s.2.1.2,.int .i64 m.1.1,.int .i64 m.1.2.1,.string m.1.2.2,.slice m.2.1.1 m.2.2.length m.2.1.2,.slice a len pc,.int .i64 x.1.1,.int .i64 x.1.2.1,.string x.1.2.2,.slice x.2.1.1 x.2.2.length x.2.1.2] 86) (.cells #[.int .i64 0,.int .i64 0,.string ⟨#[]⟩,.slice none 0 0] 30));generalize R:(w.alloc _).alloc _=z;rw[R]at F;have J:Hid (Below w.heap.size w z/\z.heap.size=w.heap.size+2):=by
  subst R;exact⟨((ah _ _).alloc (ag _) _).alloc (by simp) _,by simp⟩
 have V:Hid (∀wr,Below (w.heap.size+2) z wr->Below w.heap.size w wr):=λwr y=>J.out.1.trans (y.mono (by omega));go_loopw [3,9] (λv U wr=>∃(k:Nat)(aF:Value),k<=len/\U=.int .i64 k/\aF=v/\Hid (Mk n B p z (w.heap.size+2) k aF wr)) (λ_ U _=>len-(intOf U).toNat)
 case atStart=>exact⟨0,_,by omega,rfl,rfl,[],rfl,eN.nil _,rfl⟩
 case round=>
  obtain⟨k,v,bw,rfl,rfl,Z⟩:=hrel;obtain⟨u,t,j,L⟩:∃u:List (Tm (n+2)),Hid (u.length=k)/\Hid (dQ (n+2) B (w.heap.size+2) u v z wr)/\Hid (av (λa b=>aw (n+2) a (n+2) b) u ((p.take k).map (de n))=true):=Z.out;clear Z;have E:=ai (V.out wr j.out.1);have a6:w.heap.size+2<=wr.heap.size:=by have:=j.out.1.size;have:=J.out.2;omega
  by_cases a8:k<len
  ·obtain⟨e,T⟩:∃e,p[k]?=some e:=⟨p[k]'(by rw[az.out];exact a8),aA _⟩;have aK:=ai (kX (de n) p k e T);obtain⟨bg,po,rfl,bB,⟨bh,⟨bi,bl,bm,bn⟩,⟨bo,bp,bq,br⟩,bs,bj⟩,ar⟩:=(jF (fh (n+1)) (E.out.mono ak) bb.out).ac k e T;have al:B<=wr.heap.size:=by omega
   have W:Hid (∀w1,Below wr.heap.size wr w1->Calls Tryz.prog 141 #[.agg #[.int .i64 e.1,.int .i64 e.2.1.1.1.1,.int .i64 e.2.1.1.1.2.1,.string e.2.1.1.1.2.2,.slice e.2.1.1.2.1.1 e.2.1.1.2.2.length e.2.1.1.2.1.2,.int .i64 e.2.1.2.1.1,.int .i64 e.2.1.2.1.2.1,.string e.2.1.2.1.2.2,.slice e.2.1.2.2.1.1 e.2.1.2.2.2.length e.2.1.2.2.1.2,.string e.2.2.1,.int .i64 e.2.2.2]] w1 (gU B (n+2) (de n e) w1)):=
    λw1 aE=>Ab n e B w1 ((fh (n+1)).below (aE.mono al) ar) (au al aE.size)
   clear ar T;generalize de n e=bt at*;have bx:(0:Int)<=(k:Int):=by omega
   have bz:(k:Int)<(len:Int):=by omega
   have bC:bg<wr.heap.size:=by omega
   obtain⟨l,q,C⟩:=j.out.slice;rw[t.out]at C;subst C;go_wp2_with fail;refine(W.out _ aG).mono ?_;rintro Q D ⟨i,rfl,H⟩;have K:Hid (Below wr.heap.size wr D):=aG.trans (H.out.1.mono (by simp));have ad:dg (n+2) i=.agg #[.int .i64 i.1.1,.int .i64 i.1.2.1,.string i.1.2.2,.slice i.2.1.1 i.2.2.length i.2.1.2]:=rfl;rw[ad];have aM:=λ(o:Obj)(g c:Nat)(w4:World) ba a7 a4=>ai (j.out.app t.out (by omega) a6 K.out i H.out.2.1 (H.out.2.2.1.mono λb a5=>by simp at a5;omega) (o:=o) (g:=g) (c:=c) (w4:=w4) ba a7 a4);have bu:wr.heap.size<=D.heap.size:=K.out.size;clear ad W bh bi bl bm bn bo bp bq br bs bj;go_wp2_with (at_builtin;refine wpList_append_lies _ rfl _ _ 28 rfl (w.heap.size+2) 30 bf _ 4 56 Tryz.underlying28 G.out.1 G.out.2.1 G.out.2.2.1 G.out.2.2.2 rfl (by decide) (.slice l k q) k (u.flatMap (gq (n+2))) (by simp[Act.eval]) (j.out.own t.out K.out _) ⟨D.heap.size,0,none⟩ 1 1 (gq (n+2) i) (by simp[Act.eval]) rfl (xy D (iv (n+2) i) rfl) (sq _ _) (by decide) (by unfold maxLen;omega) (by omega) (by simp;omega) (D.heap.size+1) (by simp) ?_;intro a1 M w4 ay aq ap bA;have aL:=aM _ a1 M w4 ay aq ap;clear ay aq ap);go_roundw
   case rel=>exact⟨k+1,_,by omega,by go_num,rfl,u++ [i],by simp[t.out],aL.out,by rw[aK.out];exact ic _ _ _ _ _ L.out H.out.2.2.2⟩
   case measure=>simp[intOf];omega
  ·obtain rfl:k=len:=by omega
   obtain⟨l,q,C⟩:=j.out.slice;rw[t.out]at C;subst C;have f:=ai (And.intro ((j.out.1.block w.heap.size (by omega)).trans F.out.1) ((j.out.1.block (w.heap.size+1) (by omega)).trans F.out.2));have aP:wr.cell? ⟨w.heap.size,0,none⟩=some (.int .i64 s.1.1):=am f.out.1 0;have aQ:wr.cell? ⟨w.heap.size,1,none⟩=some (.int .i64 s.1.2.1):=am f.out.1 1;have aU:wr.cell? ⟨w.heap.size,2,none⟩=some (.string s.1.2.2):=am f.out.1 2;have aV:wr.cell? ⟨w.heap.size,3,none⟩=some (.slice s.2.1.1 s.2.2.length s.2.1.2):=am f.out.1 3;have M:wr.cell? ⟨w.heap.size,4,none⟩=some (.int .i64 m.1.1):=am f.out.1 4;have aW:wr.cell? ⟨w.heap.size,5,none⟩=some (.int .i64 m.1.2.1):=am f.out.1 5;have aX:wr.cell? ⟨w.heap.size,6,none⟩=some (.string m.1.2.2):=am f.out.1 6;have aY:wr.cell? ⟨w.heap.size,7,none⟩=some (.slice m.2.1.1 m.2.2.length m.2.1.2):=am f.out.1 7;have a0:wr.cell? ⟨w.heap.size,9,none⟩=some (.int .i64 x.1.1):=am f.out.1 9;have aR:wr.cell? ⟨w.heap.size,10,none⟩=some (.int .i64 x.1.2.1):=am f.out.1 10;have aS:wr.cell? ⟨w.heap.size,11,none⟩=some (.string x.1.2.2):=am f.out.1 11;have aT:wr.cell? ⟨w.heap.size,12,none⟩=some (.slice x.2.1.1 x.2.2.length x.2.1.2):=am f.out.1 12;have N:wr.cell? ⟨w.heap.size+1,0,none⟩=some (.int .i64 0):=am f.out.2 0;have d1:wr.cell? ⟨w.heap.size+1,1,none⟩=some (.int .i64 0):=am f.out.2 1;have O:wr.cell? ⟨w.heap.size+1,2,none⟩=some (.string ⟨#[]⟩):=am f.out.2 2;have P:wr.cell? ⟨w.heap.size+1,3,none⟩=some (.slice none 0 0):=am f.out.2 3;have ae:=λI=>cG f.out.2 I;have bc:w.heap.size<wr.heap.size:=by omega
   have A:w.heap.size+1<wr.heap.size:=by omega
   have X:Hid (∀d,Below wr.heap.size wr d->(d.cell? ⟨w.heap.size,0,none⟩=some (.int .i64 s.1.1)/\d.cell? ⟨w.heap.size,1,none⟩=some (.int .i64 s.1.2.1)/\d.cell? ⟨w.heap.size,2,none⟩=some (.string s.1.2.2)/\d.cell? ⟨w.heap.size,3,none⟩=some (.slice s.2.1.1 s.2.2.length s.2.1.2))/\
     (d.cell? ⟨w.heap.size,4,none⟩=some (.int .i64 m.1.1)/\d.cell? ⟨w.heap.size,5,none⟩=some (.int .i64 m.1.2.1)/\d.cell? ⟨w.heap.size,6,none⟩=some (.string m.1.2.2)/\d.cell? ⟨w.heap.size,7,none⟩=some (.slice m.2.1.1 m.2.2.length m.2.1.2))/\
     (d.cell? ⟨w.heap.size,9,none⟩=some (.int .i64 x.1.1)/\d.cell? ⟨w.heap.size,10,none⟩=some (.int .i64 x.1.2.1)/\d.cell? ⟨w.heap.size,11,none⟩=some (.string x.1.2.2)/\d.cell? ⟨w.heap.size,12,none⟩=some (.slice x.2.1.1 x.2.2.length x.2.1.2))):=λd y=>by
    have h:=λo=>aj y w.heap.size o bc;exact⟨⟨(h _).trans aP,(h _).trans aQ,(h _).trans aU,(h _).trans aV⟩,⟨(h _).trans M,(h _).trans aW,(h _).trans aX,(h _).trans aY⟩,(h _).trans a0,(h _).trans aR,(h _).trans aS,(h _).trans aT⟩
   have aa:Hid True:=trivial;have aI:=λ(w1:World)(a2:Below wr.heap.size wr w1)=>ai (wi (base:=w.heap.size+2) (ys:=p.map (de n)) (w1:=w1) ak bd.out a9.out be.out E.out j.out.tup (bX rfl (by have y:=L.out;rw[bk (by rw[az.out];omega)]at y;exact y)) a2);have aJ:=ai t.out;clear R j t L f V J F;go_wp2_with fail
   go_region_held3 (λd=>(d.cell? ⟨w.heap.size,0,none⟩=some (.int .i64 s.1.1)/\d.cell? ⟨w.heap.size,1,none⟩=some (.int .i64 s.1.2.1)/\d.cell? ⟨w.heap.size,2,none⟩=some (.string s.1.2.2)/\d.cell? ⟨w.heap.size,3,none⟩=some (.slice s.2.1.1 s.2.2.length s.2.1.2))/\
       (d.cell? ⟨w.heap.size,4,none⟩=some (.int .i64 m.1.1)/\d.cell? ⟨w.heap.size,5,none⟩=some (.int .i64 m.1.2.1)/\d.cell? ⟨w.heap.size,6,none⟩=some (.string m.1.2.2)/\d.cell? ⟨w.heap.size,7,none⟩=some (.slice m.2.1.1 m.2.2.length m.2.1.2))/\
       (d.cell? ⟨w.heap.size,9,none⟩=some (.int .i64 x.1.1)/\d.cell? ⟨w.heap.size,10,none⟩=some (.int .i64 x.1.2.1)/\d.cell? ⟨w.heap.size,11,none⟩=some (.string x.1.2.2)/\d.cell? ⟨w.heap.size,12,none⟩=some (.slice x.2.1.1 x.2.2.length x.2.1.2))) (first|(go_keep;done)|exact X.out _ r.out|(refine X.out _ ?_;go_grown;done))
    ((first
     | (go_at_call 78;refine(gW _ _).mono ?_;rintro Q w1 ⟨rfl,rfl⟩)
     | (go_at_call 80;have aO:=aa;clear aa;refine(fj _ _ _ _).mono ?_;rintro Q w1 ⟨rfl,rfl⟩)
     | (go_at_call 80;clear aO;refine(fj _ _ _ _).mono ?_;rintro Q aH ⟨rfl,S⟩;have r:=ai (show Below wr.heap.size wr aH by rw[S];go_grown);have aN:=ai S;clear S;replace N:=(aj r.out _ _ A).trans N;replace d1:=(aj r.out _ _ A).trans d1;replace O:=(aj r.out _ _ A).trans O;replace P:=(aj r.out _ _ A).trans P;replace ae:=λI=>(fP r.out _ I A).trans (ae I))))
   go_wp2_with fail;refine ao (v:=.agg #[.int .i64 4,.int .i64 0,.string ⟨#[]⟩,.slice (some ⟨wr.heap.size+1+1,0,none⟩) 5 5]) (by simp[results,Tryz.results112,go_sem,N,d1,O,P]) rfl ?_;rw[a3.out];have an:Below wr.heap.size wr ((wr.alloc (.cells #[.int .i64 2,.int .i64 0,.string ⟨#[111,110]⟩,.slice none 0 0] 30)).alloc (.cells #[.int .i64 4,.int .i64 0,.string ⟨#[]⟩,.slice l k q] 30)):=by go_grown
   have af:Below (((wr.alloc (.cells #[.int .i64 2,.int .i64 0,.string ⟨#[111,110]⟩,.slice none 0 0] 30)).alloc (.cells #[.int .i64 4,.int .i64 0,.string ⟨#[]⟩,.slice l k q] 30)).alloc (.cells #[.int .i64 2,.int .i64 0,.string ⟨#[111,110]⟩,.slice none 0 0,.int .i64 s.1.1,.int .i64 s.1.2.1,.string s.1.2.2,.slice s.2.1.1 s.2.2.length s.2.1.2,.int .i64 m.1.1,.int .i64 m.1.2.1,.string m.1.2.2,.slice m.2.1.1 m.2.2.length m.2.1.2,.int .i64 4,.int .i64 0,.string ⟨#[]⟩,.slice l k q,.int .i64 x.1.1,.int .i64 x.1.2.1,.string x.1.2.2,.slice x.2.1.1 x.2.2.length x.2.1.2] 30)).heap.size (((wr.alloc (.cells #[.int .i64 2,.int .i64 0,.string ⟨#[111,110]⟩,.slice none 0 0] 30)).alloc (.cells #[.int .i64 4,.int .i64 0,.string ⟨#[]⟩,.slice l k q] 30)).alloc (.cells #[.int .i64 2,.int .i64 0,.string ⟨#[111,110]⟩,.slice none 0 0,.int .i64 s.1.1,.int .i64 s.1.2.1,.string s.1.2.2,.slice s.2.1.1 s.2.2.length s.2.1.2,.int .i64 m.1.1,.int .i64 m.1.2.1,.string m.1.2.2,.slice m.2.1.1 m.2.2.length m.2.1.2,.int .i64 4,.int .i64 0,.string ⟨#[]⟩,.slice l k q,.int .i64 x.1.1,.int .i64 x.1.2.1,.string x.1.2.2,.slice x.2.1.1 x.2.2.length x.2.1.2] 30)) aH:=by rw[aN.out];go_grown
   have Y:=aI _ an;exact BT (B:=B) (base:=w.heap.size+2) _ _ (by have:=an.size;omega) (by simp) rfl (by omega) (wW (by omega) (by omega) af) (au af.size (dp (aZ _ _ _ _).symm)) (dB (E.out.trans (r.out.mono E.out.size)) (by omega)) (wh n s m x l q k u aJ.out) (by show 5<=8;omega) Y.out.1 Y.out.2
theorem uf(n:Nat)(c:Cl (n+1))(B:Nat)(w:World)(a:gj (n+1) B w c)(e:c.2.2.length<=8)(f:B<=w.heap.size):Calls Tryz.prog 112 #[.agg (ex (n+1) c).toArray] w (gU B (n+4) (eD n c) w):=by
 obtain⟨⟨h,g,i⟩,⟨d,pc⟩,b⟩:=c;exact rV n h g i b b.length rfl e d pc B w a.1.1 a.1.2.1 a.1.2.2 a.2.2 f _ rfl
def Mn(n B:Nat)(d:List (Tm (n+4)))(p:List (Cl (n+1)))(w0:World)(base k:Nat)(v:Value)(wr:World):Prop:=
 ∃a,a.length=k+2/\dQ (n+4) B base a v w0 wr/\av (λc b=>aw (n+4) c (n+4) b) a (d++(p.take k).map (eD n))=true
theorem o9(n:Nat)(s:ByteArray)(a6:s.size<=maxLen)(p:List (Cl (n+1)))(len:Nat)(aD:Hid (p.length=len))(bu:len<=6)(aX:Hid (∀c∈p,c.2.2.length<=8))(a:Option Addr)(pc:Nat)(B:Nat)(w:World)(a5:Hid (oF B w 13 (ex (n+1)) (gj (n+1) B w) a p))(aY:B<=w.heap.size)(ad:Tm (n+5))(a0:Hid (ad=ek n (s,(a,pc),p))):Calls Tryz.prog 79 #[.agg #[.string s,.slice a len pc]] w (gU B (n+5) ad w):=by
 obtain⟨a8,aB,aF,aH,aI⟩:=bM gA;have A:=ai (⟨aB,aF,aH,aI⟩:_/\_/\_/\_);clear aB aF aH aI;go_enter Tryz.func79,Tryz.ntmps79;go_wp2_with fail;have O:=ai (jz w (.cells #[.string s,.slice a len pc] 89) (.cells #[.int .i64 0,.int .i64 0,.string ⟨#[]⟩,.slice none 0 0] 30)).2;have z:=ai (jz w (.cells #[.string s,.slice a len pc] 89) (.cells #[.int .i64 0,.int .i64 0,.string ⟨#[]⟩,.slice none 0 0] 30)).1;generalize S:(w.alloc _).alloc _=e;rw[S]at O z;have j:Hid (Below w.heap.size w e/\e.heap.size=w.heap.size+2):=by
  subst S;exact⟨((ah _ _).alloc (ag _) _).alloc (by simp) _,by simp⟩
 have aL:Hid (∀wr,Below (w.heap.size+2) e wr->Below w.heap.size w wr):=λwr h=>j.out.1.trans (h.mono (by omega));clear S;have ae:e.cell? ⟨w.heap.size,0,none⟩=some (.string s):=am z.out 0;have af:e.cell? ⟨w.heap.size,1,none⟩=some (.slice a len pc):=am z.out 1;have aE:w.heap.size<e.heap.size:=by have:=j.out.2;omega
 have M:Hid (∀w',Below e.heap.size e w'->w'.cell? ⟨w.heap.size,0,none⟩=some (.string s)/\w'.cell? ⟨w.heap.size,1,none⟩=some (.slice a len pc)):=λw' h=>⟨(aj h _ _ aE).trans ae,(aj h _ _ aE).trans af⟩;clear z
 go_region_held3 (λw'=>w'.cell? ⟨w.heap.size,0,none⟩=some (.string s)/\w'.cell? ⟨w.heap.size,1,none⟩=some (.slice a len pc)) (first|(go_keep;done)|(refine M.out _ ?_;go_grown;done))
  ((go_at_call 78;refine(gW _ _).mono ?_;rintro D w1 ⟨rfl,rfl⟩))
 have aa:Hid (av (λa b=>aw (n+4) a (n+4) b) [aQ nh (n+3),aQ s (n+3)] ([aQ nh (n+3),aQ s (n+3)]++(p.take 0).map (eD n))=true):=by
  show _=true;simp[av,df]
 have L:Hid (dQ (n+4) B (w.heap.size+2) [aQ nh (n+3),aQ s (n+3)] (.slice (some ⟨e.heap.size+1+1,0,none⟩) 2 2) e (((e.alloc (.cells #[.int .i64 2,.int .i64 0,.string ⟨#[98,101,104]⟩,.slice none 0 0] 30)).alloc (.cells #[.int .i64 2,.int .i64 0,.string s,.slice none 0 0] 30)).alloc (.cells #[.int .i64 2,.int .i64 0,.string ⟨#[98,101,104]⟩,.slice none 0 0,.int .i64 2,.int .i64 0,.string s,.slice none 0 0] 30)).drew):=by
  have h:=eN.lit (T:=30) (k:=4) (B:=B) (base:=w.heap.size+2) (dM (n+4)) [aQ nh (n+3),aQ s (n+3)] (w0:=e) (w1:=(e.alloc (.cells #[.int .i64 2,.int .i64 0,.string ⟨#[98,101,104]⟩,.slice none 0 0] 30)).alloc (.cells #[.int .i64 2,.int .i64 0,.string s,.slice none 0 0] 30)) (cs:= #[.int .i64 2,.int .i64 0,.string ⟨#[98,101,104]⟩,.slice none 0 0,.int .i64 2,.int .i64 0,.string s,.slice none 0 0]) rfl (mj _) (by show 2<=maxLen;unfold maxLen;omega) (by have:=j.out.2;simp;omega) (((ah _ _).alloc (by have:=j.out.2;omega) _).alloc (by have:=j.out.2;simp;omega) _) (λd m=>by
   simp only[br,dv,dx]at m;rcases m with rfl|rfl
   ·exact⟨eO _ _ (gF _ (by decide)) _ _,np _ _ _⟩
   ·exact⟨eO _ _ a6 _ _,np _ _ _⟩)
  have D:((e.alloc (.cells #[.int .i64 2,.int .i64 0,.string ⟨#[98,101,104]⟩,.slice none 0 0] 30)).alloc (.cells #[.int .i64 2,.int .i64 0,.string s,.slice none 0 0] 30)).heap.size=e.heap.size+1+1:=by simp
  rw[D]at h;exact h.later (dM _) (by have:=j.out.2;simp;omega) (ah _ _).drew
 have N:=ai (M.out _ (show Below e.heap.size e (((e.alloc (.cells #[.int .i64 2,.int .i64 0,.string ⟨#[98,101,104]⟩,.slice none 0 0] 30)).alloc (.cells #[.int .i64 2,.int .i64 0,.string s,.slice none 0 0] 30)).alloc (.cells #[.int .i64 2,.int .i64 0,.string ⟨#[98,101,104]⟩,.slice none 0 0,.int .i64 2,.int .i64 0,.string s,.slice none 0 0] 30)).drew by go_grown));generalize ap:(((e.alloc _).alloc _).alloc _).drew=aT;rw[ap]at L N;have bC:aT.cell? ⟨w.heap.size,1,none⟩=some (.slice a len pc):=N.out.2;clear ap M N ae af;go_wp2_with fail;go_loopw [3,14] (λv V wr=>∃(k:Nat)(aK:Value),k<=len/\V=.int .i64 k/\aK=v/\Hid (Mn n B ([aQ nh (n+3),aQ s (n+3)]) p e (w.heap.size+2) k aK wr)) (λ_ V _=>len-(intOf V).toNat)
 case atStart=>exact⟨0,_,by omega,rfl,rfl,_,rfl,L.out,aa.out⟩
 case round=>
  clear L aa;obtain⟨k,v,bv,rfl,rfl,ab⟩:=hrel;obtain⟨t,q,i,Z⟩:∃t:List (Tm (n+4)),Hid (t.length=k+2)/\Hid (dQ (n+4) B (w.heap.size+2) t v e wr)/\Hid (av (λa b=>aw (n+4) a (n+4) b) t (([aQ nh (n+3),aQ s (n+3)])++(p.take k).map (eD n))=true):=ab.out;clear ab;have K:=ai (aL.out wr i.out.1);have ar:w.heap.size+2<=wr.heap.size:=by have:=i.out.1.size;have:=j.out.2;omega
  by_cases a3:k<len
  ·obtain⟨d,m⟩:∃d,p[k]?=some d:=⟨p[k]'(by rw[aD.out];exact a3),aA _⟩;have aN:=ai (kX (eD n) p k d m);obtain⟨a9,po,rfl,bA,⟨⟨ba,bb,bf,bg⟩,⟨bh,bi,bj,bl⟩,bm,bn,bc,bd,be⟩,az⟩:=(jF (dW (n+1)) (K.out.mono aY) a5.out).cl k d m;have an:B<=wr.heap.size:=by omega
   have aR:=ai m
   have Y:Hid (∀w1,Below wr.heap.size wr w1->Calls Tryz.prog 112 #[.agg #[.int .i64 d.1.1.1.1,.int .i64 d.1.1.1.2.1,.string d.1.1.1.2.2,.slice d.1.1.2.1.1 d.1.1.2.2.length d.1.1.2.1.2,.int .i64 d.1.2.1.1.1,.int .i64 d.1.2.1.1.2.1,.string d.1.2.1.1.2.2,.slice d.1.2.1.2.1.1 d.1.2.1.2.2.length d.1.2.1.2.1.2,.slice d.2.1.1 d.2.2.length d.2.1.2,.int .i64 d.1.2.2.1.1,.int .i64 d.1.2.2.1.2.1,.string d.1.2.2.1.2.2,.slice d.1.2.2.2.1.1 d.1.2.2.2.2.length d.1.2.2.2.1.2]] w1 (gU B (n+4) (eD n d) w1)):=
    λw1 F=>uf n d B w1 ((dW (n+1)).below (F.mono an) az) (aX.out d (ay aR.out)) (au an F.size)
   clear az m;generalize eD n d=bo at*;have bw:(0:Int)<=(k:Int):=by omega
   have bx:(k:Int)<(len:Int):=by omega
   have bB:a9<wr.heap.size:=by omega
   obtain⟨H,I,x⟩:=i.out.slice;rw[q.out]at x;subst x;go_wp2_with fail;refine(Y.out _ aG).mono ?_;rintro D y ⟨f,rfl,C⟩;have J:Hid (Below wr.heap.size wr y):=aG.trans (C.out.1.mono (by simp));have E:dg (n+4) f=.agg #[.int .i64 f.1.1,.int .i64 f.1.2.1,.string f.1.2.2,.slice f.2.1.1 f.2.2.length f.2.1.2]:=rfl;rw[E];have aP:=λ(o:Obj)(g c:Nat)(w4:World) a4 a2 a1=>ai (i.out.app q.out (by omega) ar J.out f C.out.2.1 (C.out.2.2.1.mono λb U=>by simp at U;omega) (o:=o) (g:=g) (c:=c) (w4:=w4) a4 a2 a1);have bt:wr.heap.size<=y.heap.size:=J.out.size;clear E Y ba bb bf bg bh bi bj bl bm bn bc bd be;go_wp2_with (at_builtin;refine wpList_append_lies _ rfl _ _ 28 rfl (w.heap.size+2) 30 a8 _ 4 56 Tryz.underlying28 A.out.1 A.out.2.1 A.out.2.2.1 A.out.2.2.2 rfl (by decide) (.slice H (k+2) I) (k+2) (t.flatMap (gq (n+4))) (by simp[Act.eval]) (i.out.own q.out J.out _) ⟨y.heap.size,0,none⟩ 1 1 (gq (n+4) f) (by simp[Act.eval]) rfl (xy y (iv (n+4) f) rfl) (sq _ _) (by decide) (by unfold maxLen;omega) (by omega) (by simp;omega) (y.heap.size+1) (by simp) ?_;intro aW aU w4 aC ax aq bz;have aO:=aP _ aW aU w4 aC ax aq;clear aC ax aq);go_roundw
   case rel=>exact⟨k+1,_,by omega,by go_num,rfl,t++ [f],by have:=q.out;simp;omega,aO.out,by rw[aN.out,<-lJ];exact ic _ _ _ _ _ Z.out C.out.2.2.2⟩
   case measure=>simp[intOf];omega
  ·obtain rfl:k=len:=by omega
   obtain⟨H,I,x⟩:=i.out.slice;rw[q.out]at x;subst x;have r:=ai ((i.out.1.block (w.heap.size+1) (by omega)).trans O.out);have P:wr.cell? ⟨w.heap.size+1,0,none⟩=some (.int .i64 0):=am r.out 0;have d1:wr.cell? ⟨w.heap.size+1,1,none⟩=some (.int .i64 0):=am r.out 1;have Q:wr.cell? ⟨w.heap.size+1,2,none⟩=some (.string ⟨#[]⟩):=am r.out 2;have R:wr.cell? ⟨w.heap.size+1,3,none⟩=some (.slice none 0 0):=am r.out 3;have al:=λG=>cG r.out G;have u:w.heap.size+1<wr.heap.size:=by omega
   have aM:=λ(aS w':World) U F a7=>ai (dQ.tells (w:=w) (ys:=([aQ nh (n+3),aQ s (n+3)])++p.map (eD n)) (w':=w') (i.out.later (dM _) ar (w1:=aS) U) (by omega) (by have h:=Z.out;rw[bk (by rw[aD.out];omega)]at h;exact h) F a7);clear r O;go_wp2_with (go_at_call 80;refine(fj _ _ _ _).mono ?_;rintro D W ⟨rfl,aJ⟩;have l:=ai (show Below wr.heap.size wr W by rw[aJ];go_grown);clear aJ;replace P:=(aj l.out _ _ u).trans P;replace d1:=(aj l.out _ _ u).trans d1;replace Q:=(aj l.out _ _ u).trans Q;replace R:=(aj l.out _ _ u).trans R;replace al:=λG=>(fP l.out _ G u).trans (al G));refine ao (v:=.agg #[.int .i64 4,.int .i64 0,.string ⟨#[]⟩,.slice H (k+2) I]) (by simp[results,Tryz.results79,go_sem,P,d1,Q,R]) rfl ?_;rw[a0.out];obtain⟨bp,bq,ak,X⟩:=(aM W (cP W (w.heap.size+1) 0 (.int .i64 4) (.int .i64 0) (.string ⟨#[]⟩) (.slice H (k+2) I)) l.out (wW (by omega) (by omega) (ah _ _)) (dp (aZ _ _ _ _).symm)).out (dB (K.out.trans (l.out.mono K.out.size)) (by omega));rw[q.out]at ak X;injection ak with aV bs E;subst aV E;exact X
theorem p8(n:Nat)(b:Bh (n+1))(B:Nat)(w:World)(a:og (n+1) B w b)(f:b.2.2.length<=6)(g:∀c∈b.2.2,c.2.2.length<=8)(h:B<=w.heap.size):Calls Tryz.prog 79 #[.agg (nr (n+1) b).toArray] w (gU B (n+5) (ek n b) w):=by
 obtain⟨i,⟨e,pc⟩,d⟩:=b;exact o9 n i a.1 d d.length rfl f g e pc B w a.2.2 h _ rfl
def Mp(n B:Nat)(d:List (Tm (n+5)))(p:List (Bh (n+1)))(w0:World)(base k:Nat)(v:Value)(wr:World):Prop:=
 ∃a,a.length=k+1/\dQ (n+5) B base a v w0 wr/\av (λc b=>aw (n+5) c (n+5) b) a (d++(p.take k).map (ek n))=true
theorem qT(n:Nat)(p:List (Bh (n+1)))(len:Nat)(az:Hid (p.length=len))(ba:len<=7)(ad:Hid (∀b∈p,b.2.2.length<=6/\∀c∈b.2.2,c.2.2.length<=8))(a:Option Addr)(pc:Nat)(B:Nat)(w:World)(aX:Hid (fx (n+1) B w a p))(aR:B<=w.heap.size)(Z:Tm (n+6))(aS:Hid (Z=cR n p)):Calls Tryz.prog 52 #[.slice a len pc] w (gU B (n+6) Z w):=by
 obtain⟨a0,aq,aB,aC,aD⟩:=bM gA;have y:=ai (⟨aq,aB,aC,aD⟩:_/\_/\_/\_);clear aq aB aC aD;go_enter Tryz.func52,Tryz.ntmps52;go_wp2_with (go_at_call 78;refine(gW _ _).mono ?_;rintro A w1 ⟨rfl,rfl⟩);have K:=ai (ax w (.cells #[.int .i64 0,.int .i64 0,.string ⟨#[]⟩,.slice none 0 0] 30));have W:Hid (av (λa b=>aw (n+5) a (n+5) b) [aQ iO (n+4)] ([aQ iO (n+4)]++(p.take 0).map (ek n))=true):=by
  show _=true;simp[av,df]
 generalize O:w.alloc (.cells #[.int .i64 0,.int .i64 0,.string ⟨#[]⟩,.slice none 0 0] 30)=e;rw[O]at K;have s:Hid (Below w.heap.size w e/\e.heap.size=w.heap.size+1):=by
  subst O;exact⟨(ah _ _).alloc (ag _) _,by simp⟩
 have aH:Hid (∀wr,Below (w.heap.size+1) e wr->Below w.heap.size w wr):=λwr j=>s.out.1.trans (j.mono (by omega));clear O;have J:Hid (dQ (n+5) B (w.heap.size+1) [aQ iO (n+4)] (.slice (some ⟨w.heap.size+1+1,0,none⟩) 1 1) e ((e.alloc (.cells #[.int .i64 2,.int .i64 0,.string ⟨#[99,111,100,101]⟩,.slice none 0 0] 30)).alloc (.cells #[.int .i64 2,.int .i64 0,.string ⟨#[99,111,100,101]⟩,.slice none 0 0] 30))):=by
  have j:=eN.lit (T:=30) (k:=4) (B:=B) (base:=w.heap.size+1) (dM (n+5)) [aQ iO (n+4)] (w0:=e) (w1:=e.alloc (.cells #[.int .i64 2,.int .i64 0,.string ⟨#[99,111,100,101]⟩,.slice none 0 0] 30)) (cs:= #[.int .i64 2,.int .i64 0,.string ⟨#[99,111,100,101]⟩,.slice none 0 0]) rfl (mj _) (by show 1<=maxLen;unfold maxLen;omega) (by have:=s.out.2;simp;omega) ((ah _ _).alloc (by have:=s.out.2;omega) _) (λd l=>by
   simp only[br,dv,dx]at l;subst l
   exact⟨eO _ _ (gF _ (by decide)) _ _,np _ _ _⟩)
  have A:(e.alloc (.cells #[.int .i64 2,.int .i64 0,.string ⟨#[99,111,100,101]⟩,.slice none 0 0] 30)).heap.size=w.heap.size+1+1:=by have:=s.out.2;simp;omega
  rw[A]at j;exact j
 generalize af:(e.alloc _).alloc _=a4;rw[af]at J;clear af;go_loopw [3,10] (λv Q wr=>∃(k:Nat)(aF:Value),k<=len/\Q=.int .i64 k/\aF=v/\Hid (Mp n B ([aQ iO (n+4)]) p e (w.heap.size+1) k aF wr)) (λ_ Q _=>len-(intOf Q).toNat)
 case atStart=>exact⟨0,_,by omega,rfl,rfl,_,rfl,J.out,W.out⟩
 case round=>
  clear J W;obtain⟨k,v,bb,rfl,rfl,X⟩:=hrel;obtain⟨r,m,h,V⟩:∃r:List (Tm (n+5)),Hid (r.length=k+1)/\Hid (dQ (n+5) B (w.heap.size+1) r v e wr)/\Hid (av (λa b=>aw (n+5) a (n+5) b) r (([aQ iO (n+4)])++(p.take k).map (ek n))=true):=X.out;clear X;have I:=ai (aH.out wr h.out.1);have al:w.heap.size+1<=wr.heap.size:=by have:=h.out.1.size;have:=s.out.2;omega
  by_cases aV:k<len
  ·obtain⟨d,l⟩:∃d,p[k]?=some d:=⟨p[k]'(by rw[az.out];exact aV),aA _⟩;have aJ:=ai (kX (ek n) p k d l);obtain⟨a1,po,rfl,bf,⟨a2,a3⟩,ap⟩:=(fx.below (I.out.mono aR) aX.out).bh k d l;have ae:B<=wr.heap.size:=by omega
   have Y:=ai l
   have U:Hid (∀w1,Below wr.heap.size wr w1->Calls Tryz.prog 79 #[.agg #[.string d.1,.slice d.2.1.1 d.2.2.length d.2.1.2]] w1 (gU B (n+5) (ek n d) w1)):=
    λw1 D=>p8 n d B w1 ((dH (n+1)).below (D.mono ae) ap) (ad.out d (ay Y.out)).1 (ad.out d (ay Y.out)).2 (au ae D.size)
   clear ap l;generalize ek n d=a5 at*;have bc:(0:Int)<=(k:Int):=by omega
   have bd:(k:Int)<(len:Int):=by omega
   have bg:a1<wr.heap.size:=by omega
   obtain⟨F,G,u⟩:=h.out.slice;rw[m.out]at u;subst u;go_wp2_with fail;refine(U.out _ aG).mono ?_;rintro A x ⟨f,rfl,z⟩;have H:Hid (Below wr.heap.size wr x):=aG.trans (z.out.1.mono (by simp));have C:dg (n+5) f=.agg #[.int .i64 f.1.1,.int .i64 f.1.2.1,.string f.1.2.2,.slice f.2.1.1 f.2.2.length f.2.1.2]:=rfl;rw[C];have aL:=λ(o:Obj)(g c:Nat)(w4:World) aW aU aT=>ai (h.out.app m.out (by omega) al H.out f z.out.2.1 (z.out.2.2.1.mono λb P=>by simp at P;omega) (o:=o) (g:=g) (c:=c) (w4:=w4) aW aU aT);have a9:wr.heap.size<=x.heap.size:=H.out.size;clear C U a2 a3;go_wp2_with (at_builtin;refine wpList_append_lies _ rfl _ _ 28 rfl (w.heap.size+1) 30 a0 _ 4 56 Tryz.underlying28 y.out.1 y.out.2.1 y.out.2.2.1 y.out.2.2.2 rfl (by decide) (.slice F (k+1) G) (k+1) (r.flatMap (gq (n+5))) (by simp[Act.eval]) (h.out.own m.out H.out _) ⟨x.heap.size,0,none⟩ 1 1 (gq (n+5) f) (by simp[Act.eval]) rfl (xy x (iv (n+5) f) rfl) (sq _ _) (by decide) (by unfold maxLen;omega) (by omega) (by simp;omega) (x.heap.size+1) (by simp) ?_;intro aP aN w4 ar an ak be;have aK:=aL _ aP aN w4 ar an ak;clear ar an ak);go_roundw
   case rel=>exact⟨k+1,_,by omega,by go_num,rfl,r++ [f],by have:=m.out;simp;omega,aK.out,by rw[aJ.out,<-lJ];exact ic _ _ _ _ _ V.out z.out.2.2.2⟩
   case measure=>simp[intOf];omega
  ·obtain rfl:k=len:=by omega
   obtain⟨F,G,u⟩:=h.out.slice;rw[m.out]at u;subst u;have q:=ai ((h.out.1.block (w.heap.size) (by omega)).trans K.out);have L:wr.cell? ⟨w.heap.size,0,none⟩=some (.int .i64 0):=am q.out 0;have d1:wr.cell? ⟨w.heap.size,1,none⟩=some (.int .i64 0):=am q.out 1;have M:wr.cell? ⟨w.heap.size,2,none⟩=some (.string ⟨#[]⟩):=am q.out 2;have N:wr.cell? ⟨w.heap.size,3,none⟩=some (.slice none 0 0):=am q.out 3;have ab:=λE=>cG q.out E;have t:w.heap.size<wr.heap.size:=by omega
   have aI:=λ(aM w':World) P D aY=>ai (dQ.tells (w:=w) (ys:=([aQ iO (n+4)])++p.map (ek n)) (w':=w') (h.out.later (dM _) al (w1:=aM) P) (by omega) (by have j:=V.out;rw[bk (by rw[az.out];omega)]at j;exact j) D aY);clear q K;go_wp2_with (go_at_call 80;refine(fj _ _ _ _).mono ?_;rintro A R ⟨rfl,aE⟩;have i:=ai (show Below wr.heap.size wr R by rw[aE];go_grown);clear aE;replace L:=(aj i.out _ _ t).trans L;replace d1:=(aj i.out _ _ t).trans d1;replace M:=(aj i.out _ _ t).trans M;replace N:=(aj i.out _ _ t).trans N;replace ab:=λE=>(fP i.out _ E t).trans (ab E));refine ao (v:=.agg #[.int .i64 4,.int .i64 0,.string ⟨#[]⟩,.slice F (k+1) G]) (by simp[results,Tryz.results52,go_sem,L,d1,M,N]) rfl ?_;rw[aS.out];obtain⟨a6,a7,aa,S⟩:=(aI R (cP R (w.heap.size) 0 (.int .i64 4) (.int .i64 0) (.string ⟨#[]⟩) (.slice F (k+1) G)) i.out (wW (by omega) (by omega) (ah _ _)) (dp (aZ _ _ _ _).symm)).out (dB (I.out.trans (i.out.mono I.out.size)) (by omega));rw[m.out]at aa S;injection aa with aO a8 C;subst aO C;exact S
theorem rW(n:Nat)(p:List (Bh (n+1)))(a:Option Addr)(pc:Nat)(B:Nat)(w:World)(g:fx (n+1) B w a p)(d:p.length<=7)(e:∀b∈p,b.2.2.length<=6/\∀c∈b.2.2,c.2.2.length<=8)(f:B<=w.heap.size):Calls Tryz.prog 52 #[.slice a p.length pc] w (gU B (n+6) (cR n p) w):=
 qT n p p.length rfl d e a pc B w g f _ rfl
def zT(N:Nat):Tm (N+1):=((0,0,.empty),(none,0),[])
def mz(n:Nat)(p:List (Bh (n+1))):Int:=if jy (n+1) p then bA (n+6) (cR n p)else 5
def G5(n:Nat)(p:List (Bh (n+1))):Tm (n+6):=if mz n p=0 then cR n p else zT (n+5)
def E0(B n:Nat)(p:List (Bh (n+1)))(w:World)(e:Ending)(w':World):Prop:=
 ∃a:Tm (n+6),e=.returned (.tuple #[dg (n+6) a,.int .i64 (mz n p)])/\Hid (Below w.heap.size w w'/\In w'.heap.size w' (n+6) a/\ch (λb=>b<B\/w.heap.size<=b) (n+6) a/\aw (n+6) a (n+6) (G5 n p)=true)
theorem ky(N B:Nat)(w:World):In B w (N+1) (zT N):=⟨⟨by simp[zT,dc],by simp[zT,dc],aD _,by simp[zT],by simp[zT]⟩,ae rfl⟩
theorem CT{B n:Nat}{p:List (Bh (n+1))}{w w':World}{k:Int}(b:Below w.heap.size w w')(c:k=mz n p)(a:¬k=0):E0 B n p w (.returned (.tuple #[.agg #[.int .i64 0,.int .i64 0,.string .empty,.slice none 0 0],.int .i64 k])) w':=by
 subst c;refine⟨zT (n+5),rfl,b,ky _ _ _,ae rfl,?_⟩;unfold G5;rw[if_neg a];exact kL (ky _ 0 w)
theorem vu{n:Nat}{p:List (Bh n)}(a:jy n p=true):p.length<=7/\∀b∈p,b.2.2.length<=6/\∀c∈b.2.2,c.2.2.length<=8:=by
 simp only[jy,sI,ri,az,bN,bS]at a;refine⟨by omega,λb d=>⟨by have:=(a.2 b d).1.2;omega,λc e=>by have:=((a.2 b d).2 c e).1;omega⟩⟩
theorem pA(w:World)(v0 v1 v2 v3:Value)(t:TypeId){w':World}(a:Below (w.alloc (.cells #[v0,v1,v2,v3] t)).heap.size (w.alloc (.cells #[v0,v1,v2,v3] t)) w'):w'.heap[w.heap.size]?=some (.cells #[v0,v1,v2,v3] t):=
 (a.block _ (by simp)).trans (ax w _)
theorem G6(n:Nat)(p:List (Bh (n+1)))(a:Option Addr)(pc:Nat)(ax:p.length<=pc)(ak:pc<=maxLen)(B:Nat)(w:World)(O:fx (n+1) B w a p)(E:B<=w.heap.size)(aj:jy (n+1) p=true->(aq (n+6) (cR n p)).length<=2097152):Calls Tryz.prog 26 #[.slice a p.length pc] w (E0 B n p w):=by
 have T:Hid (∀f,Below w.heap.size w f->Calls Tryz.prog 51 #[.slice a p.length pc] f λk m=>k=.returned (.bool (jy (n+1) p))/\Below f.heap.size f m):=
  λf x=>ov n p p.length rfl a pc B f (O.below (x.mono E)) (by unfold maxLen at ak;omega) (au E x.size)
 have J:Hid (jy (n+1) p=true->∀f,Below w.heap.size w f->Calls Tryz.prog 52 #[.slice a p.length pc] f (gU B (n+6) (cR n p) f)):=
  λx f D=>rW n p a pc B f (O.below (D.mono E)) (vu x).1 (vu x).2 (au E D.size)
 have A:Hid (mz n p=if jy (n+1) p then bA (n+6) (cR n p)else 5):=rfl;have U:=ai aj;have W:Hid (G5 n p=if mz n p=0 then cR n p else zT (n+5)):=rfl;clear O aj ax ak;generalize p.length=len at*;generalize jy (n+1) p=aC at*;go_enter Tryz.func26,Tryz.ntmps26;go_wp2_with fail;refine(T.out _ aG).mono ?_;rintro k f ⟨rfl,M⟩;have h:=ai (pA w _ _ _ _ _ M);have r:Hid (Below w.heap.size w f):=aG.trans (M.mono (by simp));have ay:w.heap.size<f.heap.size:=(aE.1 h.out).1;clear M T;cases aC
 ·have s:f.cell? ⟨w.heap.size,0,none⟩=some (.int .i64 0):=am h.out 0;have d1:f.cell? ⟨w.heap.size,1,none⟩=some (.int .i64 0):=am h.out 1;have t:f.cell? ⟨w.heap.size,2,none⟩=some (.string ⟨#[]⟩):=am h.out 2;have u:f.cell? ⟨w.heap.size,3,none⟩=some (.slice none 0 0):=am h.out 3;have ae:=λz=>cG h.out z;clear J h;go_wp2_with fail;exact ao (v:=.tuple #[.agg #[.int .i64 0,.int .i64 0,.string .empty,.slice none 0 0],.int .i64 5]) (by simp[results,Tryz.results26,go_sem,s,d1,t,u];rfl) rfl (CT (dB r.out (ag _)) (by rw[A.out];rfl) (by omega))
 ·have V:=ai (J.out rfl f r.out);go_wp2_with fail;refine V.out.mono ?_;rintro k g ⟨d,rfl,j⟩;have P:Hid (Below w.heap.size w g):=r.out.trans (j.out.1.mono r.out.size);have ab:dg (n+6) d=.agg #[.int .i64 d.1.1,.int .i64 d.1.2.1,.string d.1.2.2,.slice d.2.1.1 d.2.2.length d.2.1.2]:=rfl;have R:Hid (∀e,Below g.heap.size g e->Calls Tryz.prog 42 #[.agg #[.int .i64 d.1.1,.int .i64 d.1.2.1,.string d.1.2.2,.slice d.2.1.1 d.2.2.length d.2.1.2]] e λk m=>k=.returned (.int .i64 (mz n p))/\Below e.heap.size e m):=λe y=>by
   have:=dL (n+6) d g.heap.size e (j.out.2.1.below y) y.size (by rw[jI _ _ _ _ j.out.2.2.2];exact U.out (by simp));rw[bI j.out.2.2.2]at this;rw[A.out];exact this
  have I:Hid (mz n p=0->∀e,Below g.heap.size g e->Calls Tryz.prog 45 #[.agg #[.int .i64 d.1.1,.int .i64 d.1.2.1,.string d.1.2.2,.slice d.2.1.1 d.2.2.length d.2.1.2]] e λk m=>∃c:Tm (n+6),k=.returned (dg (n+6) c)/\Hid (Below e.heap.size e m/\In m.heap.size m (n+6) c/\ch (λaB=>e.heap.size<=aB) (n+6) c/\aw (n+6) c (n+6) d=true)):=λar e y=>
   gz (n+6) d g.heap.size e (j.out.2.1.below y) y.size (aJ.2 (by have D:bA (n+6) (cR n p)=0:=(by simpa [A.out]using ar);rw[iJ _ _ _ _ j.out.2.2.2];exact(bv.1 D).1))
  have ap:=ai j.out.2.2.2;have K:=ai ((j.out.1.block _ ay).trans h.out);have az:w.heap.size<g.heap.size:=(aE.1 K.out).1;rw[ab];clear J V h r j ab U;generalize ah:mz n p=F at*;have S:=ai ah;clear ah A;go_wp2_with fail;refine(R.out _ aG).mono ?_;rintro k e ⟨rfl,N⟩;have H:Hid (Below g.heap.size g e):=aG.trans (N.mono (by simp));have G:Hid (Below w.heap.size w e):=P.out.trans (H.out.mono P.out.size);have C:=ai (pA g _ _ _ _ _ N);have i:=ai ((H.out.block _ az).trans K.out);have aA:w.heap.size<e.heap.size:=(aE.1 i.out).1;have X:e.cell? ⟨g.heap.size,0,none⟩=some (.int .i64 d.1.1):=am C.out 0;have Y:e.cell? ⟨g.heap.size,1,none⟩=some (.int .i64 d.1.2.1):=am C.out 1;have Z:e.cell? ⟨g.heap.size,2,none⟩=some (.string d.1.2.2):=am C.out 2;have aa:e.cell? ⟨g.heap.size,3,none⟩=some (.slice d.2.1.1 d.2.2.length d.2.1.2):=am C.out 3;clear N R K;by_cases L:F=0
  ·subst L;have al:=ai (I.out rfl e H.out);clear I;go_wp2_with fail;refine al.out.mono ?_;rintro k q ⟨c,rfl,l⟩;have o:=ai ((l.out.1.block _ aA).trans i.out);have Q:Hid (Below w.heap.size w q):=G.out.trans (l.out.1.mono G.out.size);have s:q.cell? ⟨w.heap.size,0,none⟩=some (.int .i64 0):=am o.out 0;have d1:q.cell? ⟨w.heap.size,1,none⟩=some (.int .i64 0):=am o.out 1;have t:q.cell? ⟨w.heap.size,2,none⟩=some (.string ⟨#[]⟩):=am o.out 2;have u:q.cell? ⟨w.heap.size,3,none⟩=some (.slice none 0 0):=am o.out 3;have ae:=λz=>cG o.out z;have ad:dg (n+6) c=.agg #[.int .i64 c.1.1,.int .i64 c.1.2.1,.string c.1.2.2,.slice c.2.1.1 c.2.2.length c.2.1.2]:=rfl;rw[ad];have an:Hid (E0 B n p w (.returned (.tuple #[.agg #[.int .i64 c.1.1,.int .i64 c.1.2.1,.string c.1.2.2,.slice c.2.1.1 c.2.2.length c.2.1.2],.int .i64 0])) (cP q w.heap.size 0 (.int .i64 c.1.1) (.int .i64 c.1.2.1) (.string c.1.2.2) (.slice c.2.1.1 c.2.2.length c.2.1.2))):=by
    refine⟨c,by rw[S.out];rfl,dB Q.out (ag _),?_,l.out.2.2.1.mono λb av=>af (by omega),?_⟩
    ·rw[aZ];exact In.off (λb av=>aO (by omega) _ _ _ _) l.out.2.2.1 l.out.2.1
    ·rw[show G5 n p=cR n p from by simpa using W.out];exact bP _ _ _ _ _ _ l.out.2.2.2 ap.out
   clear o i l Q X Y Z aa ad W;go_wp2_with fail;exact ao (v:=.tuple #[.agg #[.int .i64 c.1.1,.int .i64 c.1.2.1,.string c.1.2.2,.slice c.2.1.1 c.2.2.length c.2.1.2],.int .i64 0]) (by simp[results,Tryz.results26,go_sem,s,d1,t,u]) rfl an.out
  ·have s:e.cell? ⟨w.heap.size,0,none⟩=some (.int .i64 0):=am i.out 0;have d1:e.cell? ⟨w.heap.size,1,none⟩=some (.int .i64 0):=am i.out 1;have t:e.cell? ⟨w.heap.size,2,none⟩=some (.string ⟨#[]⟩):=am i.out 2;have u:e.cell? ⟨w.heap.size,3,none⟩=some (.slice none 0 0):=am i.out 3;have ae:=λz=>cG i.out z;have aD:(F !=0)=true:=by simpa using L
   clear i I X Y Z aa;go_wp2_with fail;exact ao (v:=.tuple #[.agg #[.int .i64 0,.int .i64 0,.string .empty,.slice none 0 0],.int .i64 F]) (by simp[results,Tryz.results26,go_sem,s,d1,t,u];rfl) rfl (CT (dB G.out (ag _)) S.out.symm L)
theorem oX(a:Option Addr)(l c:Nat)(w:World):Calls Tryz.prog 13 #[.slice a l c] w λe w'=>e=.returned (.agg #[.int .i64 4,.int .i64 0,.string ⟨#[]⟩,.slice a l c])/\w'=w.alloc (.cells #[.int .i64 4,.int .i64 0,.string ⟨#[]⟩,.slice a l c] 30):=by
 go_enter Tryz.func13,Tryz.ntmps13;go_wp2_with fail;exact ao (v:=.agg #[.int .i64 4,.int .i64 0,.string ⟨#[]⟩,.slice a l c]) (by simp[results,Tryz.results13,go_sem]) rfl ⟨rfl,rfl⟩
theorem dQ.ownAt{N B base k:Nat}{xs:List (Tm N)}{v:Value}{w0 wr W:World}(a:dQ N B base xs v w0 wr)(c:xs.length=k)(b:Below wr.heap.size wr W):W.ownsRow base 30 4 v k (xs.flatMap (gq N)):=by
 subst c;exact dF a.2.1 b
theorem dQ.appAt{N B base k:Nat}{xs:List (Tm N)}{v:Value}{w0 wr W w4:World}{g c:Nat}(d:dQ N B base xs v w0 wr)(n:xs.length=k)(f:B<=base)(l:base<=wr.heap.size)(e:Below wr.heap.size wr W)(a:Tm N)(i:In W.heap.size W N a)(h:ch (λb=>b<B\/wr.heap.size<=b) N a)(o:w4.ownsRow base 30 4 (.slice (some ⟨g,0,none⟩) (k+1) c) (k+1) (xs.flatMap (gq N)++gq N a))(m:W.grownBy w4 v.ownBlock)(j:v.ownBlock=some g\/g=W.heap.size):dQ N B base (xs++ [a]) (.slice (some ⟨g,0,none⟩) (k+1) c) w0 w4:=by
 subst n;exact eN.step (dM N) d f l e a i h o m j
theorem pN(a:World)(o:Obj){g:Nat}(b:g=a.heap.size):(a.alloc o).drew.heap[g]?=some o:=by
 subst b;exact ax a o
theorem ge(a:World)(o:Obj){g:Nat}(b:g=a.heap.size):(a.alloc o).heap[g]?=some o:=by
 subst b;exact ax a o
def PL(b:Nat)(name:ByteArray)(a:Wd)(mv:Value):bW:=⟨b,1,[.string name],[.int .i64 a.1,.int .i64 a.2,mv],127⟩
def jd(Mh:Nat->Prop)(ma:Option Addr)(vs:List Wd)(a:Nat)(w:World):Prop:=
 (ma=none/\vs=[]/\a=0)\/∃c d b,ma=some ⟨c,d,none⟩/\¬Mh c/\w.heap[c]?=some (.cells b 125 (0,0))/\vs.length<=a/\a<=maxLen/\d+a*2<=b.size/\(b.toList.drop d).take (vs.length*2)=aP vs
def jq(N:Nat)(ws:List Wd)(nm:List ByteArray)(room:Int)(b:List Wd)(a:List (Tm N)):Prop:=
 fN ws nm N b a/\(b.flatMap (nJ ws N)).Nodup/\(∀c∈a,bA N c=0/\aF N c=true)/\(a.map (sz N)).sum<=(ws.length:Int)/\(ws.length:Int)<=room/\0<=room/\room<=1000/\nm.Nodup
structure cd (base pb:Nat) (name:ByteArray) (room:Int) (N:Nat) (s:Tm N) (ms:List (Tm N)) (xs:List (Wd×Tm N)) (nk:Nat) (M:Nat->Prop) (w:World) (ws:List Wd) (nm:List ByteArray) (sv:Wd) (vs:List Wd) (ma:Option Addr) (mc:Nat) (Mh:Nat->Prop):Prop where
 heap:dy base (PL pb name sv (.slice ma vs.length mc)) room ws nm Mh w
 mail:jd Mh ma vs mc w
 has:jq N ws nm room (sv::vs++xs.map (·.1)) (s::ms++xs.map (·.2))
 len:vs.length=ms.length
 names:nm.length<=nk
 inM:∀b,Mh b->M b
 mailM:∀a,ma=some a->M a.block
theorem dy.box{base:Nat}{b:bW}{room:Int}{ws:List Wd}{nm:List ByteArray}{M:Nat->Prop}{w:World}(e:dy base b room ws nm M w):∃tv lv mv,HB b room tv lv mv w/\∃h i,tv=.slice h ws.length i:=by
 obtain⟨tv,lv,mv,f,g,_⟩:=e;refine⟨tv,lv,mv,f,?_⟩;rcases g.2 with⟨a,d⟩|⟨k,c,j,a,_⟩
 ·exact⟨none,0,by rw[a,d]⟩
 ·exact⟨_,c,a⟩
theorem PL.cells{a:Nat}{name:ByteArray}{b:Wd}{mv:Value}{room:Int}{tv lv mp:Value}{w:World}(d:HB (PL a name b mv) room tv lv mp w):w.cell? ⟨a,0,none⟩=some (.string name)/\w.cell? ⟨a,5,none⟩=some (.int .i64 b.1)/\w.cell? ⟨a,5+1,none⟩=some (.int .i64 b.2)/\w.cell? ⟨a,7,none⟩=some mv/\(∀j,w.frozen? ⟨a,j,none⟩=false)/\a<w.heap.size:=by
 have c:w.heap[a]?=some (.cells #[.string name,.int .i64 room,tv,lv,mp,.int .i64 b.1,.int .i64 b.2,mv] 127):=d.2;refine⟨?_,?_,?_,?_,λj=>?_,(aE.1 c).1⟩
 all_goals simp[World.cell?,World.frozen?,c]
end Go.Proofs.YtnidfceinoiboaaGreat
