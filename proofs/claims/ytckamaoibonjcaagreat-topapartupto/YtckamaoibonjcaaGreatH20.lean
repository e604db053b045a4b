/- What is proved here: plain facts and contracts that the claimed theorem stands on. No condition but those that each names. -/
import Derived.Test.YtckamaoibonjcaaGreatH19
namespace Go.Proofs.YtckamaoibonjcaaGreat
open Go.RowKit
set_option maxHeartbeats 4000000
set_option maxRecDepth 100000
theorem Dr{B N base:Nat}(xs ys:List (Tm N)){w w1 w':World}{cs:Array Value}{g L:Nat}(m:base<=w1.heap.size)(p:g=w1.heap.size)(i:L=xs.length)(n:w.heap.size<=base)(s:∀b,b<B\/base<=b->b<(w1.alloc (.cells cs 30)).heap.size->w'.heap[b]?=(w1.alloc (.cells cs 30)).heap[b]?)(r:(w1.alloc (.cells cs 30)).heap.size<=w'.heap.size)(l:ai w w')(o:cs.toList=xs.flatMap (gX N))(u:xs.length<=8)(j:∀y∈xs,In w1.heap.size w1 N y/\bZ (λb=>b<B\/base<=b) N y)(q:ay (λa b=>aw N a N b) xs ys=true):ij B (N+1) (cU N ys) w (.returned (.agg #[ab 4,ab 0,ae ⟨#[]⟩,.slice (some ⟨g,0,none⟩) L L])) w':=by
 have h:=eU.lit (T:=30) (k:=4) (B:=B) (base:=base) (dM N) xs (w0:=w1) o (oy N) (by unfold maxLen;omega) m (am _ _) j;obtain⟨a,c,d,k⟩:=dP.tells h n q s r l;injection d with e t f;subst e f i p;exact k
theorem dP.slice{N B base:Nat}{xs:List (Tm N)}{v:Value}{w0 wr:World}(b:dP N B base xs v w0 wr):∃a c,v=.slice a xs.length c:=by
 rcases b.2.1.2 with⟨rfl,d⟩|⟨f,cap,e,rfl,_⟩
 ·exact⟨none,0,by rw[d]⟩
 ·exact⟨_,_,rfl⟩
theorem tz(N:Nat)(x:Tm N):∀b∈gX N x,b.oneCell'=true:=by
 intro b a;simp[gX,uF]at a;rcases a with rfl|rfl|rfl|rfl<;>rfl
theorem yO(w:World)(x:Nd){g:Nat}(d:g=w.heap.size):∀j b,(uF x)[j]?=some b->(w.alloc (.cells #[ab x.1.1,ab x.1.2.1,ae x.1.2.2,.slice x.2.1 x.2.2.1 x.2.2.2] 30)).cell? ((⟨g,0,none⟩:Addr).add j)=some b:=by
 subst d;intro j b a;rw[eV];have:j<4:=(aM.1 a).1;have c:j=0\/j=1\/j=2\/j=3:=by omega
 rcases c with rfl|rfl|rfl|rfl<;>simp[uF]at a<;>subst a<;>simp[go_sem]
theorem dP.app{N B base k:Nat}{xs:List (Tm N)}{v:Value}{w0 wr a w4:World}{g c:Nat}(h:dP N B base xs v w0 wr)(q:xs.length=k)(i:B<=base)(n:base<=wr.heap.size)(f:ai wr a)(d:Tm N)(l:In a.heap.size a N d)(j:bZ (λb=>b<B\/wr.heap.size<=b) N d){o:Obj}(r:w4.ownsRow base 30 4 (.slice (some ⟨g,0,none⟩) (k+1) c) (k+1) (xs.flatMap (gX N)++gX N d))(p:(a.alloc o).grownBy w4 v.ownBlock)(m:v.ownBlock=some g\/g=a.heap.size+1):dP N B base (xs++ [d]) (.slice (some ⟨g,0,none⟩) (k+1) c) w0 w4:=by
 subst q;have e:ai a (a.alloc o):=(am _ _).alloc (aj _) _;exact eU.step (dM N) h i n (f.trans (e.mono f.size)) d ((l.below e).mono e.size) j r p (by simpa using m)
theorem dP.own{N B base k:Nat}{xs:List (Tm N)}{v:Value}{w0 wr b:World}(c:dP N B base xs v w0 wr)(d:xs.length=k)(a:ai wr b)(o:Obj):(b.alloc o).ownsRow base 30 4 v k (xs.flatMap (gX N)):=by
 subst d;exact dG c.2.1 (a.trans (((am _ _).alloc (aj _) _).mono a.size))
theorem gq(w:World)(o:Obj){b:Nat}(a:b<w.heap.size):(w.alloc o).heap[b]?=w.heap[b]? :=(cW w o none).block b a (by simp)
theorem aq{w:World}{q:Nat}{cs:Array Value}{t:TypeId}(a:w.heap[q]?=some (.cells cs t))(j:Nat):w.cell? ⟨q,j,none⟩=cs[j]? :=by simp[World.cell?,a]
theorem cO{w:World}{q:Nat}{cs:Array Value}{t:TypeId}(a:w.heap[q]?=some (.cells cs t))(j:Nat):w.frozen? ⟨q,j,none⟩=false:=by simp[World.frozen?,a]
theorem jI(w:World)(a c:Obj):((w.alloc a).alloc c).heap[w.heap.size]?=some a/\((w.alloc a).alloc c).heap[w.heap.size+1]?=some c:=by
 have f:=(gq (w.alloc a) c (b:=w.heap.size) (by simp)).trans (az w a);have d:=az (w.alloc a) c;have e:(w.alloc a).heap.size=w.heap.size+1:=by simp
 rw[e]at d;exact⟨f,d⟩
theorem yt{w:World}{r o:Nat}{v0 v1 v2 v3:Value}{B base:Nat}(d:B<=r)(e:r<base){W:World}(a:ai W w):∀b,b<B\/base<=b->b<W.heap.size->(cG w r o v0 v1 v2 v3).heap[b]?=W.heap[b]? :=λb f c=>(aT (by omega) _ _ _ _).trans (a.block b c)
theorem dp{w W:World}{r o:Nat}{v0 v1 v2 v3:Value}(a:ai w W)(d:w.heap.size<=r):ai w (cG W r o v0 v1 v2 v3):=
 ⟨a.os,a.tape,a.output,ax a.size (dm (bj _ _ _ _).symm),λb c=>(aT (by omega) _ _ _ _).trans (a.block b c)⟩
theorem dP.tup{N B base k:Nat}{xs:List (Tm N)}{j:Option Addr}{l:Nat}{w0 wr:World}(q:dP N B base xs (.slice j k l) w0 wr):In wr.heap.size wr (N+1) ((4,0,.empty),(j,l),xs)/\bZ (λb=>b<B\/base<=b) (N+1) ((4,0,.empty),(j,l),xs):=by
 obtain⟨s,c,a,m,r,e⟩:=q.lay (dM N) (oy N);injection a with n t p;subst n p;refine⟨⟨⟨by simp[dk],by simp[dk],aF _,m.1,m.2⟩,?_⟩,?_⟩
 ·rcases r with d|⟨b,o,a,i,d⟩
  ·exact ag d
  ·exact ah ⟨b,o,a,i,λh g f=>⟨Ea (d h g f).2 (d h g f).1,(d h g f).2⟩⟩
 ·rcases e with e|⟨b,o,a,i,e⟩
  ·exact ag e
  ·exact ah ⟨b,o,a,i,λh g f=>e g (aG f)⟩
theorem xI{n B base:Nat}{s m x:Tm (n+1)}{w wr w1:World}{c:Tm (n+3)}{ys:List (Tm (n+2))}(k:B<=w.heap.size)(p:In B w (n+1) s)(o:In B w (n+1) m)(q:In B w (n+1) x)(l:ai w wr)(j:In wr.heap.size wr (n+3) c/\bZ (λb=>b<B\/base<=b) (n+3) c)(u:aw (n+3) c (n+3) (cU (n+2) ys)=true)(g:ai wr w1):(∀y∈[aW Kj (n+2),aN (n+3) (n+1) s,aN (n+3) (n+1) m,c,aN (n+3) (n+1) x],In w1.heap.size w1 (n+3) y/\bZ (λb=>b<B\/base<=b) (n+3) y)/\ ay (λa b=>aw (n+3) a (n+3) b) [aW Kj (n+2),aN (n+3) (n+1) s,aN (n+3) (n+1) m,c,aN (n+3) (n+1) x] [aW Kj (n+2),aN (n+3) (n+1) s,aN (n+3) (n+1) m,cU (n+2) ys,aN (n+3) (n+1) x]=true:=by
 have e:∀t:Tm (n+1),In B w (n+1) t->In w1.heap.size w1 (n+3) (aN (n+3) (n+1) t)/\bZ (λb=>b<B\/base<=b) (n+3) (aN (n+3) (n+1) t):=λt h=>by
  have i:=og (n+3) (n+1) (by omega) t B w h;have d:=l.trans (g.mono l.size);exact⟨(i.below (d.mono k)).mono (ax k d.size),(od i).mono λb d=>ag d⟩
 have f:∀t:Tm (n+1),In B w (n+1) t->aw (n+3) (aN (n+3) (n+1) t) (n+3) (aN (n+3) (n+1) t)=true:=λt h=>kU (og (n+3) (n+1) (by omega) t B w h);refine⟨λy r=>?_,by simp only[ay,f s p,f m o,f x q,u,dI,g8]⟩;simp only[cB,gf,gm]at r;rcases r with rfl|rfl|rfl|rfl|rfl
 ·exact⟨gP _ _ (mS _ (by decide)) _ _,nT _ _ _⟩
 ·exact e s p
 ·exact e m o
 ·exact⟨(j.1.below g).mono g.size,j.2⟩
 ·exact e x q
theorem f9(N n:Nat)(x:Tm (n+1)):gX (N+1) (aN (N+1) (n+1) x)=gX (n+1) x:=by
 unfold gX;rw[Lb]
theorem xH(n:Nat)(s m x:Tm (n+1))(a:Option Addr)(b k:Nat)(xs:List (Tm (n+2)))(c:xs.length=k):[ab 2,ab 0,ae ⟨#[111,110]⟩,.slice none 0 0,ab s.1.1,ab s.1.2.1,ae s.1.2.2,.slice s.2.1.1 s.2.2.length s.2.1.2,ab m.1.1,ab m.1.2.1,ae m.1.2.2,.slice m.2.1.1 m.2.2.length m.2.1.2,ab 4,ab 0,ae ⟨#[]⟩,.slice a k b,ab x.1.1,ab x.1.2.1,ae x.1.2.2,.slice x.2.1.1 x.2.2.length x.2.1.2]=
     List.flatMap (gX (n+3)) [aW Kj (n+2),aN (n+3) (n+1) s,aN (n+3) (n+1) m,((4,0,.empty),(a,b),xs),aN (n+3) (n+1) x]:=by
 show _=gX (n+3) (aW Kj (n+2))++(gX (n+3) (aN (n+3) (n+1) s)++(gX (n+3) (aN (n+3) (n+1) m)++(gX (n+3) ((4,0,.empty),(a,b),xs)++(gX (n+3) (aN (n+3) (n+1) x)++ []))));rw[f9,f9,f9,<-c];rfl
theorem lm{a c:Type}(f:a->c)(p:List a)(k:Nat)(x:a)(b:p[k]?=some x):(p.take (k+1)).map f=(p.take k).map f++ [f x]:=by
 rw[dx,b];simp
def OJ(n B:Nat)(p:List (Ac (n+1)))(w0:World)(base k:Nat)(v:Value)(wr:World):Prop:=
 ∃a,a.length=k/\dP (n+2) B base a v w0 wr/\ay (λc b=>aw (n+2) c (n+2) b) a ((p.take k).map (bY n))=true
theorem tb(n:Nat)(s m x:Tm (n+1))(p:List (Ac (n+1)))(len:Nat)(aD:Hid (p.length=len))(bA:len<=8)(a:Option Addr)(pc:Nat)(B:Nat)(w:World)(bg:Hid (In B w (n+1) s))(bc:Hid (In B w (n+1) m))(bh:Hid (In B w (n+1) x))(be:Hid (pr B w 11 (fT (n+1)) (ic (n+1) B w) a p))(al:B<=w.heap.size)(ad:Tm (n+4))(a6:Hid (ad=du n ((s,m,x),(a,pc),p))):ak 124 #[.agg #[ab s.1.1,ab s.1.2.1,ae s.1.2.2,.slice s.2.1.1 s.2.2.length s.2.1.2,ab m.1.1,ab m.1.2.1,ae m.1.2.2,.slice m.2.1.1 m.2.2.length m.2.1.2,.slice a len pc,ab x.1.1,ab x.1.2.1,ae x.1.2.2,.slice x.2.1.1 x.2.2.length x.2.1.2]] w (ij B (n+4) ad w):=by
 obtain⟨bi,aB,aF,aG,aH⟩:=bQ fY;have G:=ao (⟨aB,aF,aG,aH⟩:_/\_/\_/\_);clear aB aF aG aH;go_enter Tryz.func124,Tryz.ntmps124;go_wp2_with fail;have F:=ao (jI w (.cells #[ab s.1.1,ab s.1.2.1,ae s.1.2.2,.slice s.2.1.1 s.2.2.length s.2.1.2,ab m.1.1,ab m.1.2.1,ae m.1.2.2,.slice m.2.1.1 m.2.2.length m.2.1.2,.slice a len pc,ab x.1.1,ab x.1.2.1,ae x.1.2.2,.slice x.2.1.1 x.2.2.length x.2.1.2] 147) (.cells #[ab 0,ab 0,ae ⟨#[]⟩,.slice none 0 0] 30));generalize R:(w.alloc _).alloc _=z;rw[R]at F;have J:Hid (ai w z/\z.heap.size=w.heap.size+2):=by
  subst R;exact⟨((am _ _).alloc (aj _) _).alloc (by simp) _,by simp⟩
 have V:Hid (∀wr,Below (w.heap.size+2) z wr->ai w wr):=λwr y=>J.out.1.trans (y.mono (by omega));go_loopw [3,9] (λv U wr=>∃(k:Nat)(aJ:Value),k<=len/\U=ab k/\aJ=v/\Hid (OJ n B p z (w.heap.size+2) k aJ wr)) (λ_ U _=>len-(intOf U).toNat)
 case atStart=>exact⟨0,_,by omega,rfl,rfl,[],rfl,eU.nil _,rfl⟩
 case round=>
  obtain⟨k,v,bB,rfl,rfl,Z⟩:=hrel;obtain⟨u,t,j,L⟩:∃u:List (Tm (n+2)),Hid (u.length=k)/\Hid (dP (n+2) B (w.heap.size+2) u v z wr)/\Hid (ay (λa b=>aw (n+2) a (n+2) b) u ((p.take k).map (bY n))=true):=Z.out;clear Z;have E:=ao (V.out wr j.out.1);have a9:w.heap.size+2<=wr.heap.size:=by have:=j.out.1.size;have:=J.out.2;omega
  by_cases bb:k<len
  ·obtain⟨e,T⟩:∃e,p[k]?=some e:=⟨p[k]'(by rw[aD.out];exact bb),aE _⟩;have aO:=ao (lm (bY n) p k e T);obtain⟨bk,po,rfl,bF,⟨bl,⟨bm,bo,bp,bq⟩,⟨br,bs,bt,bu⟩,bv,bn⟩,aA⟩:=(jO (fu (n+1)) (E.out.mono al) be.out).ac k e T;have an:B<=wr.heap.size:=by omega
   have W:Hid (∀w1,ai wr w1->ak 155 #[.agg #[ab e.1,ab e.2.1.1.1.1,ab e.2.1.1.1.2.1,ae e.2.1.1.1.2.2,.slice e.2.1.1.2.1.1 e.2.1.1.2.2.length e.2.1.1.2.1.2,ab e.2.1.2.1.1,ab e.2.1.2.1.2.1,ae e.2.1.2.1.2.2,.slice e.2.1.2.2.1.1 e.2.1.2.2.2.length e.2.1.2.2.1.2,ae e.2.2.1,ab e.2.2.2]] w1 (ij B (n+2) (bY n e) w1)):=
    λw1 aI=>Br n e B w1 ((fu (n+1)).below (aI.mono an) aA) (ax an aI.size)
   clear aA T;generalize bY n e=bx at*;have bC:(0:Int)<=(k:Int):=by omega
   have bD:(k:Int)<(len:Int):=by omega
   have bG:bk<wr.heap.size:=by omega
   obtain⟨l,q,C⟩:=j.out.slice;rw[t.out]at C;subst C;go_wp2_with fail;refine(W.out _ aK).mono ?_;rintro Q D ⟨i,rfl,H⟩;have K:Hid (ai wr D):=aK.trans (H.out.1.mono (by simp));have af:df (n+2) i=.agg #[ab i.1.1,ab i.1.2.1,ae i.1.2.2,.slice i.2.1.1 i.2.2.length i.2.1.2]:=rfl;rw[af];have aQ:=λ(o:Obj)(g c:Nat)(w4:World) bd ba a7=>ao (j.out.app t.out (by omega) a9 K.out i H.out.2.1 (H.out.2.2.1.mono λb a8=>by simp at a8;omega) (o:=o) (g:=g) (c:=c) (w4:=w4) bd ba a7);have bz:wr.heap.size<=D.heap.size:=K.out.size;clear af W bl bm bo bp bq br bs bt bu bv bn;go_wp2_with (at_builtin;refine wpList_append_lies _ rfl _ _ 28 rfl (w.heap.size+2) 30 bi _ 4 56 Tryz.underlying28 G.out.1 G.out.2.1 G.out.2.2.1 G.out.2.2.2 rfl (by decide) (.slice l k q) k (u.flatMap (gX (n+2))) (by simp[Act.eval]) (j.out.own t.out K.out _) ⟨D.heap.size,0,none⟩ 1 1 (gX (n+2) i) (by simp[Act.eval]) rfl (yO D (fX (n+2) i) rfl) (tz _ _) (by decide) (by unfold maxLen;omega) (by omega) (by simp;omega) (D.heap.size+1) (by simp) ?_;intro a4 M w4 aC az av bE;have aP:=aQ _ a4 M w4 aC az av;clear aC az av);go_roundw
   case rel=>exact⟨k+1,_,by omega,by go_num,rfl,u++ [i],by simp[t.out],aP.out,by rw[aO.out];exact iB _ _ _ _ _ L.out H.out.2.2.2⟩
   case measure=>simp[intOf];omega
  ·obtain rfl:k=len:=by omega
   obtain⟨l,q,C⟩:=j.out.slice;rw[t.out]at C;subst C;have f:=ao (And.intro ((j.out.1.block w.heap.size (by omega)).trans F.out.1) ((j.out.1.block (w.heap.size+1) (by omega)).trans F.out.2));have aT:wr.cell? ⟨w.heap.size,0,none⟩=some (ab s.1.1):=aq f.out.1 0;have aU:wr.cell? ⟨w.heap.size,1,none⟩=some (ab s.1.2.1):=aq f.out.1 1;have aY:wr.cell? ⟨w.heap.size,2,none⟩=some (ae s.1.2.2):=aq f.out.1 2;have aZ:wr.cell? ⟨w.heap.size,3,none⟩=some (.slice s.2.1.1 s.2.2.length s.2.1.2):=aq f.out.1 3;have M:wr.cell? ⟨w.heap.size,4,none⟩=some (ab m.1.1):=aq f.out.1 4;have a0:wr.cell? ⟨w.heap.size,5,none⟩=some (ab m.1.2.1):=aq f.out.1 5;have a1:wr.cell? ⟨w.heap.size,6,none⟩=some (ae m.1.2.2):=aq f.out.1 6;have a2:wr.cell? ⟨w.heap.size,7,none⟩=some (.slice m.2.1.1 m.2.2.length m.2.1.2):=aq f.out.1 7;have a3:wr.cell? ⟨w.heap.size,9,none⟩=some (ab x.1.1):=aq f.out.1 9;have aV:wr.cell? ⟨w.heap.size,10,none⟩=some (ab x.1.2.1):=aq f.out.1 10;have aW:wr.cell? ⟨w.heap.size,11,none⟩=some (ae x.1.2.2):=aq f.out.1 11;have aX:wr.cell? ⟨w.heap.size,12,none⟩=some (.slice x.2.1.1 x.2.2.length x.2.1.2):=aq f.out.1 12;have N:wr.cell? ⟨w.heap.size+1,0,none⟩=some (ab 0):=aq f.out.2 0;have d1:wr.cell? ⟨w.heap.size+1,1,none⟩=some (ab 0):=aq f.out.2 1;have O:wr.cell? ⟨w.heap.size+1,2,none⟩=some (ae ⟨#[]⟩):=aq f.out.2 2;have P:wr.cell? ⟨w.heap.size+1,3,none⟩=some (.slice none 0 0):=aq f.out.2 3;have ag:=λI=>cO f.out.2 I;have bf:w.heap.size<wr.heap.size:=by omega
   have A:w.heap.size+1<wr.heap.size:=by omega
   have X:Hid (∀d,ai wr d->(d.cell? ⟨w.heap.size,0,none⟩=some (ab s.1.1)/\d.cell? ⟨w.heap.size,1,none⟩=some (ab s.1.2.1)/\d.cell? ⟨w.heap.size,2,none⟩=some (ae s.1.2.2)/\d.cell? ⟨w.heap.size,3,none⟩=some (.slice s.2.1.1 s.2.2.length s.2.1.2))/\
     (d.cell? ⟨w.heap.size,4,none⟩=some (ab m.1.1)/\d.cell? ⟨w.heap.size,5,none⟩=some (ab m.1.2.1)/\d.cell? ⟨w.heap.size,6,none⟩=some (ae m.1.2.2)/\d.cell? ⟨w.heap.size,7,none⟩=some (.slice m.2.1.1 m.2.2.length m.2.1.2))/\
     (d.cell? ⟨w.heap.size,9,none⟩=some (ab x.1.1)/\d.cell? ⟨w.heap.size,10,none⟩=some (ab x.1.2.1)/\d.cell? ⟨w.heap.size,11,none⟩=some (ae x.1.2.2)/\d.cell? ⟨w.heap.size,12,none⟩=some (.slice x.2.1.1 x.2.2.length x.2.1.2))):=λd y=>by
    have h:=λo=>ap y w.heap.size o bf;exact⟨⟨(h _).trans aT,(h _).trans aU,(h _).trans aY,(h _).trans aZ⟩,⟨(h _).trans M,(h _).trans a0,(h _).trans a1,(h _).trans a2⟩,(h _).trans a3,(h _).trans aV,(h _).trans aW,(h _).trans aX⟩
   have aa:Hid True:=trivial;have aM:=λ(w1:World)(a5:ai wr w1)=>ao (xI (base:=w.heap.size+2) (ys:=p.map (bY n)) (w1:=w1) al bg.out bc.out bh.out E.out j.out.tup (cX rfl (by have y:=L.out;rw[bw (by rw[aD.out];omega)]at y;exact y)) a5);have aN:=ao t.out;clear R j t L f V J F;go_wp2_with fail
   go_region_held3 (λd=>(d.cell? ⟨w.heap.size,0,none⟩=some (ab s.1.1)/\d.cell? ⟨w.heap.size,1,none⟩=some (ab s.1.2.1)/\d.cell? ⟨w.heap.size,2,none⟩=some (ae s.1.2.2)/\d.cell? ⟨w.heap.size,3,none⟩=some (.slice s.2.1.1 s.2.2.length s.2.1.2))/\
       (d.cell? ⟨w.heap.size,4,none⟩=some (ab m.1.1)/\d.cell? ⟨w.heap.size,5,none⟩=some (ab m.1.2.1)/\d.cell? ⟨w.heap.size,6,none⟩=some (ae m.1.2.2)/\d.cell? ⟨w.heap.size,7,none⟩=some (.slice m.2.1.1 m.2.2.length m.2.1.2))/\
       (d.cell? ⟨w.heap.size,9,none⟩=some (ab x.1.1)/\d.cell? ⟨w.heap.size,10,none⟩=some (ab x.1.2.1)/\d.cell? ⟨w.heap.size,11,none⟩=some (ae x.1.2.2)/\d.cell? ⟨w.heap.size,12,none⟩=some (.slice x.2.1.1 x.2.2.length x.2.1.2))) (first|(go_keep;done)|exact X.out _ r.out|(refine X.out _ ?_;go_grown;done))
    ((first
     | (go_at_call 87;refine(il _ _).mono ?_;rintro Q w1 ⟨rfl,rfl⟩)
     | (go_at_call 89;have aS:=aa;clear aa;refine(fy _ _ _ _).mono ?_;rintro Q w1 ⟨rfl,rfl⟩)
     | (go_at_call 89;clear aS;refine(fy _ _ _ _).mono ?_;rintro Q aL ⟨rfl,S⟩;have r:=ao (show ai wr aL by rw[S];go_grown);have aR:=ao S;clear S;replace N:=(ap r.out _ _ A).trans N;replace d1:=(ap r.out _ _ A).trans d1;replace O:=(ap r.out _ _ A).trans O;replace P:=(ap r.out _ _ A).trans P;replace ag:=λI=>(gt r.out _ I A).trans (ag I))))
   go_wp2_with fail;refine ar (v:=.agg #[ab 4,ab 0,ae ⟨#[]⟩,.slice (some ⟨wr.heap.size+1+1,0,none⟩) 5 5]) (by simp[results,Tryz.results124,go_sem,N,d1,O,P]) rfl ?_;rw[a6.out];have au:ai wr ((wr.alloc (.cells #[ab 2,ab 0,ae ⟨#[111,110]⟩,.slice none 0 0] 30)).alloc (.cells #[ab 4,ab 0,ae ⟨#[]⟩,.slice l k q] 30)):=by go_grown
   have ah:Below (((wr.alloc (.cells #[ab 2,ab 0,ae ⟨#[111,110]⟩,.slice none 0 0] 30)).alloc (.cells #[ab 4,ab 0,ae ⟨#[]⟩,.slice l k q] 30)).alloc (.cells #[ab 2,ab 0,ae ⟨#[111,110]⟩,.slice none 0 0,ab s.1.1,ab s.1.2.1,ae s.1.2.2,.slice s.2.1.1 s.2.2.length s.2.1.2,ab m.1.1,ab m.1.2.1,ae m.1.2.2,.slice m.2.1.1 m.2.2.length m.2.1.2,ab 4,ab 0,ae ⟨#[]⟩,.slice l k q,ab x.1.1,ab x.1.2.1,ae x.1.2.2,.slice x.2.1.1 x.2.2.length x.2.1.2] 30)).heap.size (((wr.alloc (.cells #[ab 2,ab 0,ae ⟨#[111,110]⟩,.slice none 0 0] 30)).alloc (.cells #[ab 4,ab 0,ae ⟨#[]⟩,.slice l k q] 30)).alloc (.cells #[ab 2,ab 0,ae ⟨#[111,110]⟩,.slice none 0 0,ab s.1.1,ab s.1.2.1,ae s.1.2.2,.slice s.2.1.1 s.2.2.length s.2.1.2,ab m.1.1,ab m.1.2.1,ae m.1.2.2,.slice m.2.1.1 m.2.2.length m.2.1.2,ab 4,ab 0,ae ⟨#[]⟩,.slice l k q,ab x.1.1,ab x.1.2.1,ae x.1.2.2,.slice x.2.1.1 x.2.2.length x.2.1.2] 30)) aL:=by rw[aR.out];go_grown
   have Y:=aM _ au;exact Dr (B:=B) (base:=w.heap.size+2) _ _ (by have:=au.size;omega) (by simp) rfl (by omega) (yt (by omega) (by omega) ah) (ax ah.size (dm (bj _ _ _ _).symm)) (dp (E.out.trans (r.out.mono E.out.size)) (by omega)) (xH n s m x l q k u aN.out) (by show 5<=8;omega) Y.out.1 Y.out.2
theorem vd(n:Nat)(c:Cl (n+1))(B:Nat)(w:World)(a:gL (n+1) B w c)(e:c.2.2.length<=8)(f:B<=w.heap.size):ak 124 #[.agg (eO (n+1) c).toArray] w (ij B (n+4) (du n c) w):=by
 obtain⟨⟨h,g,i⟩,⟨d,pc⟩,b⟩:=c;exact tb n h g i b b.length rfl e d pc B w a.1.1 a.1.2.1 a.1.2.2 a.2.2 f _ rfl
def OM(n B:Nat)(d:List (Tm (n+4)))(p:List (Cl (n+1)))(w0:World)(base k:Nat)(v:Value)(wr:World):Prop:=
 ∃a,a.length=k+2/\dP (n+4) B base a v w0 wr/\ay (λc b=>aw (n+4) c (n+4) b) a (d++(p.take k).map (du n))=true
theorem pR(n:Nat)(s:ByteArray)(a9:s.size<=maxLen)(p:List (Cl (n+1)))(len:Nat)(aH:Hid (p.length=len))(bx:len<=6)(a1:Hid (∀c∈p,c.2.2.length<=8))(a:Option Addr)(pc:Nat)(B:Nat)(w:World)(a8:Hid (pr B w 13 (eO (n+1)) (gL (n+1) B w) a p))(a2:B<=w.heap.size)(af:Tm (n+5))(a3:Hid (af=dC n (s,(a,pc),p))):ak 88 #[.agg #[ae s,.slice a len pc]] w (ij B (n+5) af w):=by
 obtain⟨bb,aD,aJ,aL,aM⟩:=bQ fY;have A:=ao (⟨aD,aJ,aL,aM⟩:_/\_/\_/\_);clear aD aJ aL aM;go_enter Tryz.func88,Tryz.ntmps88;go_wp2_with fail;have O:=ao (jI w (.cells #[ae s,.slice a len pc] 138) (.cells #[ab 0,ab 0,ae ⟨#[]⟩,.slice none 0 0] 30)).2;have z:=ao (jI w (.cells #[ae s,.slice a len pc] 138) (.cells #[ab 0,ab 0,ae ⟨#[]⟩,.slice none 0 0] 30)).1;generalize S:(w.alloc _).alloc _=e;rw[S]at O z;have j:Hid (ai w e/\e.heap.size=w.heap.size+2):=by
  subst S;exact⟨((am _ _).alloc (aj _) _).alloc (by simp) _,by simp⟩
 have aP:Hid (∀wr,Below (w.heap.size+2) e wr->ai w wr):=λwr h=>j.out.1.trans (h.mono (by omega));clear S;have ag:e.cell? ⟨w.heap.size,0,none⟩=some (ae s):=aq z.out 0;have ah:e.cell? ⟨w.heap.size,1,none⟩=some (.slice a len pc):=aq z.out 1;have aI:w.heap.size<e.heap.size:=by have:=j.out.2;omega
 have M:Hid (∀w',ai e w'->w'.cell? ⟨w.heap.size,0,none⟩=some (ae s)/\w'.cell? ⟨w.heap.size,1,none⟩=some (.slice a len pc)):=λw' h=>⟨(ap h _ _ aI).trans ag,(ap h _ _ aI).trans ah⟩;clear z
 go_region_held3 (λw'=>w'.cell? ⟨w.heap.size,0,none⟩=some (ae s)/\w'.cell? ⟨w.heap.size,1,none⟩=some (.slice a len pc)) (first|(go_keep;done)|(refine M.out _ ?_;go_grown;done))
  ((go_at_call 87;refine(il _ _).mono ?_;rintro D w1 ⟨rfl,rfl⟩))
 have aa:Hid (ay (λa b=>aw (n+4) a (n+4) b) [aW te (n+3),aW s (n+3)] ([aW te (n+3),aW s (n+3)]++(p.take 0).map (du n))=true):=by
  show _=true;simp[ay,dI]
 have L:Hid (dP (n+4) B (w.heap.size+2) [aW te (n+3),aW s (n+3)] (.slice (some ⟨e.heap.size+1+1,0,none⟩) 2 2) e (((e.alloc (.cells #[ab 2,ab 0,ae ⟨#[98,101,104]⟩,.slice none 0 0] 30)).alloc (.cells #[ab 2,ab 0,ae s,.slice none 0 0] 30)).alloc (.cells #[ab 2,ab 0,ae ⟨#[98,101,104]⟩,.slice none 0 0,ab 2,ab 0,ae s,.slice none 0 0] 30)).drew):=by
  have h:=eU.lit (T:=30) (k:=4) (B:=B) (base:=w.heap.size+2) (dM (n+4)) [aW te (n+3),aW s (n+3)] (w0:=e) (w1:=(e.alloc (.cells #[ab 2,ab 0,ae ⟨#[98,101,104]⟩,.slice none 0 0] 30)).alloc (.cells #[ab 2,ab 0,ae s,.slice none 0 0] 30)) (cs:= #[ab 2,ab 0,ae ⟨#[98,101,104]⟩,.slice none 0 0,ab 2,ab 0,ae s,.slice none 0 0]) rfl (oy _) (by show 2<=maxLen;unfold maxLen;omega) (by have:=j.out.2;simp;omega) (((am _ _).alloc (by have:=j.out.2;omega) _).alloc (by have:=j.out.2;simp;omega) _) (λd m=>by
   simp only[cB,gf,gm]at m;rcases m with rfl|rfl
   ·exact⟨gP _ _ (mS _ (by decide)) _ _,nT _ _ _⟩
   ·exact⟨gP _ _ a9 _ _,nT _ _ _⟩)
  have D:((e.alloc (.cells #[ab 2,ab 0,ae ⟨#[98,101,104]⟩,.slice none 0 0] 30)).alloc (.cells #[ab 2,ab 0,ae s,.slice none 0 0] 30)).heap.size=e.heap.size+1+1:=by simp
  rw[D]at h;exact h.later (dM _) (by have:=j.out.2;simp;omega) (am _ _).drew
 have N:=ao (M.out _ (show ai e (((e.alloc (.cells #[ab 2,ab 0,ae ⟨#[98,101,104]⟩,.slice none 0 0] 30)).alloc (.cells #[ab 2,ab 0,ae s,.slice none 0 0] 30)).alloc (.cells #[ab 2,ab 0,ae ⟨#[98,101,104]⟩,.slice none 0 0,ab 2,ab 0,ae s,.slice none 0 0] 30)).drew by go_grown));generalize av:(((e.alloc _).alloc _).alloc _).drew=aX;rw[av]at L N;have bF:aX.cell? ⟨w.heap.size,1,none⟩=some (.slice a len pc):=N.out.2;clear av M N ag ah;go_wp2_with fail;go_loopw [3,14] (λv V wr=>∃(k:Nat)(aO:Value),k<=len/\V=ab k/\aO=v/\Hid (OM n B ([aW te (n+3),aW s (n+3)]) p e (w.heap.size+2) k aO wr)) (λ_ V _=>len-(intOf V).toNat)
 case atStart=>exact⟨0,_,by omega,rfl,rfl,_,rfl,L.out,aa.out⟩
 case round=>
  clear L aa;obtain⟨k,v,bz,rfl,rfl,ad⟩:=hrel;obtain⟨t,q,i,Z⟩:∃t:List (Tm (n+4)),Hid (t.length=k+2)/\Hid (dP (n+4) B (w.heap.size+2) t v e wr)/\Hid (ay (λa b=>aw (n+4) a (n+4) b) t (([aW te (n+3),aW s (n+3)])++(p.take k).map (du n))=true):=ad.out;clear ad;have K:=ao (aP.out wr i.out.1);have aA:w.heap.size+2<=wr.heap.size:=by have:=i.out.1.size;have:=j.out.2;omega
  by_cases a6:k<len
  ·obtain⟨d,m⟩:∃d,p[k]?=some d:=⟨p[k]'(by rw[aH.out];exact a6),aE _⟩;have aR:=ao (lm (du n) p k d m);obtain⟨bc,po,rfl,bD,⟨⟨bd,be,bi,bk⟩,⟨bl,bm,bn,bo⟩,bp,bq,bf,bg,bh⟩,aC⟩:=(jO (dU (n+1)) (K.out.mono a2) a8.out).cl k d m;have au:B<=wr.heap.size:=by omega
   have aU:=ao m
   have Y:Hid (∀w1,ai wr w1->ak 124 #[.agg #[ab d.1.1.1.1,ab d.1.1.1.2.1,ae d.1.1.1.2.2,.slice d.1.1.2.1.1 d.1.1.2.2.length d.1.1.2.1.2,ab d.1.2.1.1.1,ab d.1.2.1.1.2.1,ae d.1.2.1.1.2.2,.slice d.1.2.1.2.1.1 d.1.2.1.2.2.length d.1.2.1.2.1.2,.slice d.2.1.1 d.2.2.length d.2.1.2,ab d.1.2.2.1.1,ab d.1.2.2.1.2.1,ae d.1.2.2.1.2.2,.slice d.1.2.2.2.1.1 d.1.2.2.2.2.length d.1.2.2.2.1.2]] w1 (ij B (n+4) (du n d) w1)):=
    λw1 F=>vd n d B w1 ((dU (n+1)).below (F.mono au) aC) (a1.out d (aG aU.out)) (ax au F.size)
   clear aC m;generalize du n d=br at*;have bA:(0:Int)<=(k:Int):=by omega
   have bB:(k:Int)<(len:Int):=by omega
   have bE:bc<wr.heap.size:=by omega
   obtain⟨H,I,x⟩:=i.out.slice;rw[q.out]at x;subst x;go_wp2_with fail;refine(Y.out _ aK).mono ?_;rintro D y ⟨f,rfl,C⟩;have J:Hid (ai wr y):=aK.trans (C.out.1.mono (by simp));have E:df (n+4) f=.agg #[ab f.1.1,ab f.1.2.1,ae f.1.2.2,.slice f.2.1.1 f.2.2.length f.2.1.2]:=rfl;rw[E];have aT:=λ(o:Obj)(g c:Nat)(w4:World) a7 a5 a4=>ao (i.out.app q.out (by omega) aA J.out f C.out.2.1 (C.out.2.2.1.mono λb U=>by simp at U;omega) (o:=o) (g:=g) (c:=c) (w4:=w4) a7 a5 a4);have bv:wr.heap.size<=y.heap.size:=J.out.size;clear E Y bd be bi bk bl bm bn bo bp bq bf bg bh;go_wp2_with (at_builtin;refine wpList_append_lies _ rfl _ _ 28 rfl (w.heap.size+2) 30 bb _ 4 56 Tryz.underlying28 A.out.1 A.out.2.1 A.out.2.2.1 A.out.2.2.2 rfl (by decide) (.slice H (k+2) I) (k+2) (t.flatMap (gX (n+4))) (by simp[Act.eval]) (i.out.own q.out J.out _) ⟨y.heap.size,0,none⟩ 1 1 (gX (n+4) f) (by simp[Act.eval]) rfl (yO y (fX (n+4) f) rfl) (tz _ _) (by decide) (by unfold maxLen;omega) (by omega) (by simp;omega) (y.heap.size+1) (by simp) ?_;intro a0 aY w4 aF aB az bC;have aS:=aT _ a0 aY w4 aF aB az;clear aF aB az);go_roundw
   case rel=>exact⟨k+1,_,by omega,by go_num,rfl,t++ [f],by have:=q.out;simp;omega,aS.out,by rw[aR.out,<-lZ];exact iB _ _ _ _ _ Z.out C.out.2.2.2⟩
   case measure=>simp[intOf];omega
  ·obtain rfl:k=len:=by omega
   obtain⟨H,I,x⟩:=i.out.slice;rw[q.out]at x;subst x;have r:=ao ((i.out.1.block (w.heap.size+1) (by omega)).trans O.out);have P:wr.cell? ⟨w.heap.size+1,0,none⟩=some (ab 0):=aq r.out 0;have d1:wr.cell? ⟨w.heap.size+1,1,none⟩=some (ab 0):=aq r.out 1;have Q:wr.cell? ⟨w.heap.size+1,2,none⟩=some (ae ⟨#[]⟩):=aq r.out 2;have R:wr.cell? ⟨w.heap.size+1,3,none⟩=some (.slice none 0 0):=aq r.out 3;have an:=λG=>cO r.out G;have u:w.heap.size+1<wr.heap.size:=by omega
   have aQ:=λ(aV w':World) U F ba=>ao (dP.tells (w:=w) (ys:=([aW te (n+3),aW s (n+3)])++p.map (du n)) (w':=w') (i.out.later (dM _) aA (w1:=aV) U) (by omega) (by have h:=Z.out;rw[bw (by rw[aH.out];omega)]at h;exact h) F ba);clear r O;go_wp2_with (go_at_call 89;refine(fy _ _ _ _).mono ?_;rintro D W ⟨rfl,aN⟩;have l:=ao (show ai wr W by rw[aN];go_grown);clear aN;replace P:=(ap l.out _ _ u).trans P;replace d1:=(ap l.out _ _ u).trans d1;replace Q:=(ap l.out _ _ u).trans Q;replace R:=(ap l.out _ _ u).trans R;replace an:=λG=>(gt l.out _ G u).trans (an G));refine ar (v:=.agg #[ab 4,ab 0,ae ⟨#[]⟩,.slice H (k+2) I]) (by simp[results,Tryz.results88,go_sem,P,d1,Q,R]) rfl ?_;rw[a3.out];obtain⟨bs,bt,al,X⟩:=(aQ W (cG W (w.heap.size+1) 0 (ab 4) (ab 0) (ae ⟨#[]⟩) (.slice H (k+2) I)) l.out (yt (by omega) (by omega) (am _ _)) (dm (bj _ _ _ _).symm)).out (dp (K.out.trans (l.out.mono K.out.size)) (by omega));rw[q.out]at al X;injection al with aZ bu E;subst aZ E;exact X
theorem qS(n:Nat)(b:Bh (n+1))(B:Nat)(w:World)(a:oP (n+1) B w b)(f:b.2.2.length<=6)(g:∀c∈b.2.2,c.2.2.length<=8)(h:B<=w.heap.size):ak 88 #[.agg (oR (n+1) b).toArray] w (ij B (n+5) (dC n b) w):=by
 obtain⟨i,⟨e,pc⟩,d⟩:=b;exact pR n i a.1 d d.length rfl f g e pc B w a.2.2 h _ rfl
def OO(n B:Nat)(d:List (Tm (n+5)))(p:List (Bh (n+1)))(w0:World)(base k:Nat)(v:Value)(wr:World):Prop:=
 ∃a,a.length=k+1/\dP (n+5) B base a v w0 wr/\ay (λc b=>aw (n+5) c (n+5) b) a (d++(p.take k).map (dC n))=true
theorem rR(n:Nat)(p:List (Bh (n+1)))(len:Nat)(aC:Hid (p.length=len))(bd:len<=7)(af:Hid (∀b∈p,b.2.2.length<=6/\∀c∈b.2.2,c.2.2.length<=8))(a:Option Addr)(pc:Nat)(B:Nat)(w:World)(a1:Hid (gM (n+1) B w a p))(aU:B<=w.heap.size)(Z:Tm (n+6))(aV:Hid (Z=bW n p)):ak 59 #[.slice a len pc] w (ij B (n+6) Z w):=by
 obtain⟨a3,aA,aD,aF,aH⟩:=bQ fY;have y:=ao (⟨aA,aD,aF,aH⟩:_/\_/\_/\_);clear aA aD aF aH;go_enter Tryz.func59,Tryz.ntmps59;go_wp2_with (go_at_call 87;refine(il _ _).mono ?_;rintro A w1 ⟨rfl,rfl⟩);have K:=ao (az w (.cells #[ab 0,ab 0,ae ⟨#[]⟩,.slice none 0 0] 30));have W:Hid (ay (λa b=>aw (n+5) a (n+5) b) [aW nd (n+4)] ([aW nd (n+4)]++(p.take 0).map (dC n))=true):=by
  show _=true;simp[ay,dI]
 generalize O:w.alloc (.cells #[ab 0,ab 0,ae ⟨#[]⟩,.slice none 0 0] 30)=e;rw[O]at K;have s:Hid (ai w e/\e.heap.size=w.heap.size+1):=by
  subst O;exact⟨(am _ _).alloc (aj _) _,by simp⟩
 have aL:Hid (∀wr,Below (w.heap.size+1) e wr->ai w wr):=λwr j=>s.out.1.trans (j.mono (by omega));clear O;have J:Hid (dP (n+5) B (w.heap.size+1) [aW nd (n+4)] (.slice (some ⟨w.heap.size+1+1,0,none⟩) 1 1) e ((e.alloc (.cells #[ab 2,ab 0,ae ⟨#[99,111,100,101]⟩,.slice none 0 0] 30)).alloc (.cells #[ab 2,ab 0,ae ⟨#[99,111,100,101]⟩,.slice none 0 0] 30))):=by
  have j:=eU.lit (T:=30) (k:=4) (B:=B) (base:=w.heap.size+1) (dM (n+5)) [aW nd (n+4)] (w0:=e) (w1:=e.alloc (.cells #[ab 2,ab 0,ae ⟨#[99,111,100,101]⟩,.slice none 0 0] 30)) (cs:= #[ab 2,ab 0,ae ⟨#[99,111,100,101]⟩,.slice none 0 0]) rfl (oy _) (by show 1<=maxLen;unfold maxLen;omega) (by have:=s.out.2;simp;omega) ((am _ _).alloc (by have:=s.out.2;omega) _) (λd l=>by
   simp only[cB,gf,gm]at l;subst l
   exact⟨gP _ _ (mS _ (by decide)) _ _,nT _ _ _⟩)
  have A:(e.alloc (.cells #[ab 2,ab 0,ae ⟨#[99,111,100,101]⟩,.slice none 0 0] 30)).heap.size=w.heap.size+1+1:=by have:=s.out.2;simp;omega
  rw[A]at j;exact j
 generalize ah:(e.alloc _).alloc _=a7;rw[ah]at J;clear ah;go_loopw [3,10] (λv Q wr=>∃(k:Nat)(aJ:Value),k<=len/\Q=ab k/\aJ=v/\Hid (OO n B ([aW nd (n+4)]) p e (w.heap.size+1) k aJ wr)) (λ_ Q _=>len-(intOf Q).toNat)
 case atStart=>exact⟨0,_,by omega,rfl,rfl,_,rfl,J.out,W.out⟩
 case round=>
  clear J W;obtain⟨k,v,be,rfl,rfl,X⟩:=hrel;obtain⟨r,m,h,V⟩:∃r:List (Tm (n+5)),Hid (r.length=k+1)/\Hid (dP (n+5) B (w.heap.size+1) r v e wr)/\Hid (ay (λa b=>aw (n+5) a (n+5) b) r (([aW nd (n+4)])++(p.take k).map (dC n))=true):=X.out;clear X;have I:=ao (aL.out wr h.out.1);have an:w.heap.size+1<=wr.heap.size:=by have:=h.out.1.size;have:=s.out.2;omega
  by_cases aZ:k<len
  ·obtain⟨d,l⟩:∃d,p[k]?=some d:=⟨p[k]'(by rw[aC.out];exact aZ),aE _⟩;have aN:=ao (lm (dC n) p k d l);obtain⟨a4,po,rfl,bk,⟨a5,a6⟩,av⟩:=(gM.below (I.out.mono aU) a1.out).bh k d l;have ag:B<=wr.heap.size:=by omega
   have Y:=ao l
   have U:Hid (∀w1,ai wr w1->ak 88 #[.agg #[ae d.1,.slice d.2.1.1 d.2.2.length d.2.1.2]] w1 (ij B (n+5) (dC n d) w1)):=
    λw1 D=>qS n d B w1 ((dJ (n+1)).below (D.mono ag) av) (af.out d (aG Y.out)).1 (af.out d (aG Y.out)).2 (ax ag D.size)
   clear av l;generalize dC n d=a8 at*;have bf:(0:Int)<=(k:Int):=by omega
   have bg:(k:Int)<(len:Int):=by omega
   have bl:a4<wr.heap.size:=by omega
   obtain⟨F,G,u⟩:=h.out.slice;rw[m.out]at u;subst u;go_wp2_with fail;refine(U.out _ aK).mono ?_;rintro A x ⟨f,rfl,z⟩;have H:Hid (ai wr x):=aK.trans (z.out.1.mono (by simp));have C:df (n+5) f=.agg #[ab f.1.1,ab f.1.2.1,ae f.1.2.2,.slice f.2.1.1 f.2.2.length f.2.1.2]:=rfl;rw[C];have aP:=λ(o:Obj)(g c:Nat)(w4:World) a0 aY aX=>ao (h.out.app m.out (by omega) an H.out f z.out.2.1 (z.out.2.2.1.mono λb P=>by simp at P;omega) (o:=o) (g:=g) (c:=c) (w4:=w4) a0 aY aX);have bc:wr.heap.size<=x.heap.size:=H.out.size;clear C U a5 a6;go_wp2_with (at_builtin;refine wpList_append_lies _ rfl _ _ 28 rfl (w.heap.size+1) 30 a3 _ 4 56 Tryz.underlying28 y.out.1 y.out.2.1 y.out.2.2.1 y.out.2.2.2 rfl (by decide) (.slice F (k+1) G) (k+1) (r.flatMap (gX (n+5))) (by simp[Act.eval]) (h.out.own m.out H.out _) ⟨x.heap.size,0,none⟩ 1 1 (gX (n+5) f) (by simp[Act.eval]) rfl (yO x (fX (n+5) f) rfl) (tz _ _) (by decide) (by unfold maxLen;omega) (by omega) (by simp;omega) (x.heap.size+1) (by simp) ?_;intro aT aR w4 aB au al bi;have aO:=aP _ aT aR w4 aB au al;clear aB au al);go_roundw
   case rel=>exact⟨k+1,_,by omega,by go_num,rfl,r++ [f],by have:=m.out;simp;omega,aO.out,by rw[aN.out,<-lZ];exact iB _ _ _ _ _ V.out z.out.2.2.2⟩
   case measure=>simp[intOf];omega
  ·obtain rfl:k=len:=by omega
   obtain⟨F,G,u⟩:=h.out.slice;rw[m.out]at u;subst u;have q:=ao ((h.out.1.block (w.heap.size) (by omega)).trans K.out);have L:wr.cell? ⟨w.heap.size,0,none⟩=some (ab 0):=aq q.out 0;have d1:wr.cell? ⟨w.heap.size,1,none⟩=some (ab 0):=aq q.out 1;have M:wr.cell? ⟨w.heap.size,2,none⟩=some (ae ⟨#[]⟩):=aq q.out 2;have N:wr.cell? ⟨w.heap.size,3,none⟩=some (.slice none 0 0):=aq q.out 3;have ad:=λE=>cO q.out E;have t:w.heap.size<wr.heap.size:=by omega
   have aM:=λ(aQ w':World) P D a2=>ao (dP.tells (w:=w) (ys:=([aW nd (n+4)])++p.map (dC n)) (w':=w') (h.out.later (dM _) an (w1:=aQ) P) (by omega) (by have j:=V.out;rw[bw (by rw[aC.out];omega)]at j;exact j) D a2);clear q K;go_wp2_with (go_at_call 89;refine(fy _ _ _ _).mono ?_;rintro A R ⟨rfl,aI⟩;have i:=ao (show ai wr R by rw[aI];go_grown);clear aI;replace L:=(ap i.out _ _ t).trans L;replace d1:=(ap i.out _ _ t).trans d1;replace M:=(ap i.out _ _ t).trans M;replace N:=(ap i.out _ _ t).trans N;replace ad:=λE=>(gt i.out _ E t).trans (ad E));refine ar (v:=.agg #[ab 4,ab 0,ae ⟨#[]⟩,.slice F (k+1) G]) (by simp[results,Tryz.results59,go_sem,L,d1,M,N]) rfl ?_;rw[aV.out];obtain⟨a9,ba,aa,S⟩:=(aM R (cG R (w.heap.size) 0 (ab 4) (ab 0) (ae ⟨#[]⟩) (.slice F (k+1) G)) i.out (yt (by omega) (by omega) (am _ _)) (dm (bj _ _ _ _).symm)).out (dp (I.out.trans (i.out.mono I.out.size)) (by omega));rw[m.out]at aa S;injection aa with aS bb C;subst aS C;exact S
theorem td(n:Nat)(p:List (Bh (n+1)))(a:Option Addr)(pc:Nat)(B:Nat)(w:World)(g:gM (n+1) B w a p)(d:p.length<=7)(e:∀b∈p,b.2.2.length<=6/\∀c∈b.2.2,c.2.2.length<=8)(f:B<=w.heap.size):ak 59 #[.slice a p.length pc] w (ij B (n+6) (bW n p) w):=
 rR n p p.length rfl d e a pc B w g f _ rfl
def zT(N:Nat):Tm (N+1):=((0,0,.empty),(none,0),[])
def nn(n:Nat)(p:List (Bh (n+1))):Int:=if jP (n+1) p then bq (n+6) (bW n p)else 5
def JN(n:Nat)(p:List (Bh (n+1))):Tm (n+6):=if nn n p=0 then bW n p else zT (n+5)
def Ha(B n:Nat)(p:List (Bh (n+1)))(w:World)(e:Ending)(w':World):Prop:=
 ∃a:Tm (n+6),e=.returned (.tuple #[df (n+6) a,ab (nn n p)])/\Hid (ai w w'/\In w'.heap.size w' (n+6) a/\bZ (λb=>b<B\/w.heap.size<=b) (n+6) a/\aw (n+6) a (n+6) (JN n p)=true)
theorem kI(N B:Nat)(w:World):In B w (N+1) (zT N):=⟨⟨by simp[zT,dk],by simp[zT,dk],aF _,by simp[zT],by simp[zT]⟩,ag rfl⟩
theorem Ez{B n:Nat}{p:List (Bh (n+1))}{w w':World}{k:Int}(b:ai w w')(c:k=nn n p)(a:¬k=0):Ha B n p w (.returned (.tuple #[.agg #[ab 0,ab 0,ae .empty,.slice none 0 0],ab k])) w':=by
 subst c;refine⟨zT (n+5),rfl,b,kI _ _ _,ag rfl,?_⟩;unfold JN;rw[if_neg a];exact kU (kI _ 0 w)
theorem wH{n:Nat}{p:List (Bh n)}(a:jP n p=true):p.length<=7/\∀b∈p,b.2.2.length<=6/\∀c∈b.2.2,c.2.2.length<=8:=by
 simp only[jP,vt,sO,aB,bX,b9]at a;refine⟨by omega,λb d=>⟨by have:=(a.2 b d).1.2;omega,λc e=>by have:=((a.2 b d).2 c e).1;omega⟩⟩
theorem qn(w:World)(v0 v1 v2 v3:Value)(t:TypeId){w':World}(a:Below (w.alloc (.cells #[v0,v1,v2,v3] t)).heap.size (w.alloc (.cells #[v0,v1,v2,v3] t)) w'):w'.heap[w.heap.size]?=some (.cells #[v0,v1,v2,v3] t):=
 (a.block _ (by simp)).trans (az w _)
theorem JO(n:Nat)(p:List (Bh (n+1)))(a:Option Addr)(pc:Nat)(aB:p.length<=pc)(an:pc<=maxLen)(B:Nat)(w:World)(O:gM (n+1) B w a p)(E:B<=w.heap.size)(am:jP (n+1) p=true->(av (n+6) (bW n p)).length<=2097152):ak 34 #[.slice a p.length pc] w (Ha B n p w):=by
 have T:Hid (∀f,ai w f->ak 58 #[.slice a p.length pc] f λk m=>k=.returned (.bool (jP (n+1) p))/\ai f m):=
  λf x=>oZ n p p.length rfl a pc B f (O.below (x.mono E)) (by unfold maxLen at an;omega) (ax E x.size)
 have J:Hid (jP (n+1) p=true->∀f,ai w f->ak 59 #[.slice a p.length pc] f (ij B (n+6) (bW n p) f)):=
  λx f D=>td n p a pc B f (O.below (D.mono E)) (wH x).1 (wH x).2 (ax E D.size)
 have A:Hid (nn n p=if jP (n+1) p then bq (n+6) (bW n p)else 5):=rfl;have U:=ao am;have W:Hid (JN n p=if nn n p=0 then bW n p else zT (n+5)):=rfl;clear O am aB an;generalize p.length=len at*;generalize jP (n+1) p=aH at*;go_enter Tryz.func34,Tryz.ntmps34;go_wp2_with fail;refine(T.out _ aK).mono ?_;rintro k f ⟨rfl,M⟩;have h:=ao (qn w _ _ _ _ _ M);have r:Hid (ai w f):=aK.trans (M.mono (by simp));have aD:w.heap.size<f.heap.size:=(aC.1 h.out).1;clear M T;cases aH
 ·have s:f.cell? ⟨w.heap.size,0,none⟩=some (ab 0):=aq h.out 0;have d1:f.cell? ⟨w.heap.size,1,none⟩=some (ab 0):=aq h.out 1;have t:f.cell? ⟨w.heap.size,2,none⟩=some (ae ⟨#[]⟩):=aq h.out 2;have u:f.cell? ⟨w.heap.size,3,none⟩=some (.slice none 0 0):=aq h.out 3;have ag:=λz=>cO h.out z;clear J h;go_wp2_with fail;exact ar (v:=.tuple #[.agg #[ab 0,ab 0,ae .empty,.slice none 0 0],ab 5]) (by simp[results,Tryz.results34,go_sem,s,d1,t,u];rfl) rfl (Ez (dp r.out (aj _)) (by rw[A.out];rfl) (by omega))
 ·have V:=ao (J.out rfl f r.out);go_wp2_with fail;refine V.out.mono ?_;rintro k g ⟨d,rfl,j⟩;have P:Hid (ai w g):=r.out.trans (j.out.1.mono r.out.size);have ad:df (n+6) d=.agg #[ab d.1.1,ab d.1.2.1,ae d.1.2.2,.slice d.2.1.1 d.2.2.length d.2.1.2]:=rfl;have R:Hid (∀e,ai g e->ak 51 #[.agg #[ab d.1.1,ab d.1.2.1,ae d.1.2.2,.slice d.2.1.1 d.2.2.length d.2.1.2]] e λk m=>k=.returned (ab (nn n p))/\ai e m):=λe y=>by
   have:=dB (n+6) d g.heap.size e (j.out.2.1.below y) y.size (by rw[jS _ _ _ _ j.out.2.2.2];exact U.out (by simp));rw[bL j.out.2.2.2]at this;rw[A.out];exact this
  have I:Hid (nn n p=0->∀e,ai g e->ak 54 #[.agg #[ab d.1.1,ab d.1.2.1,ae d.1.2.2,.slice d.2.1.1 d.2.2.length d.2.1.2]] e λk m=>∃c:Tm (n+6),k=.returned (df (n+6) c)/\Hid (ai e m/\In m.heap.size m (n+6) c/\bZ (λaG=>e.heap.size<=aG) (n+6) c/\aw (n+6) c (n+6) d=true)):=λaz e y=>
   gS (n+6) d g.heap.size e (j.out.2.1.below y) y.size (aJ.2 (by have D:bq (n+6) (bW n p)=0:=(by simpa [A.out]using az);rw[ja _ _ _ _ j.out.2.2.2];exact(bz.1 D).1))
  have ay:=ao j.out.2.2.2;have K:=ao ((j.out.1.block _ aD).trans h.out);have aE:w.heap.size<g.heap.size:=(aC.1 K.out).1;rw[ad];clear J V h r j ad U;generalize al:nn n p=F at*;have S:=ao al;clear al A;go_wp2_with fail;refine(R.out _ aK).mono ?_;rintro k e ⟨rfl,N⟩;have H:Hid (ai g e):=aK.trans (N.mono (by simp));have G:Hid (ai w e):=P.out.trans (H.out.mono P.out.size);have C:=ao (qn g _ _ _ _ _ N);have i:=ao ((H.out.block _ aE).trans K.out);have aF:w.heap.size<e.heap.size:=(aC.1 i.out).1;have X:e.cell? ⟨g.heap.size,0,none⟩=some (ab d.1.1):=aq C.out 0;have Y:e.cell? ⟨g.heap.size,1,none⟩=some (ab d.1.2.1):=aq C.out 1;have Z:e.cell? ⟨g.heap.size,2,none⟩=some (ae d.1.2.2):=aq C.out 2;have aa:e.cell? ⟨g.heap.size,3,none⟩=some (.slice d.2.1.1 d.2.2.length d.2.1.2):=aq C.out 3;clear N R K;by_cases L:F=0
  ·subst L;have ap:=ao (I.out rfl e H.out);clear I;go_wp2_with fail;refine ap.out.mono ?_;rintro k q ⟨c,rfl,l⟩;have o:=ao ((l.out.1.block _ aF).trans i.out);have Q:Hid (ai w q):=G.out.trans (l.out.1.mono G.out.size);have s:q.cell? ⟨w.heap.size,0,none⟩=some (ab 0):=aq o.out 0;have d1:q.cell? ⟨w.heap.size,1,none⟩=some (ab 0):=aq o.out 1;have t:q.cell? ⟨w.heap.size,2,none⟩=some (ae ⟨#[]⟩):=aq o.out 2;have u:q.cell? ⟨w.heap.size,3,none⟩=some (.slice none 0 0):=aq o.out 3;have ag:=λz=>cO o.out z;have af:df (n+6) c=.agg #[ab c.1.1,ab c.1.2.1,ae c.1.2.2,.slice c.2.1.1 c.2.2.length c.2.1.2]:=rfl;rw[af];have au:Hid (Ha B n p w (.returned (.tuple #[.agg #[ab c.1.1,ab c.1.2.1,ae c.1.2.2,.slice c.2.1.1 c.2.2.length c.2.1.2],ab 0])) (cG q w.heap.size 0 (ab c.1.1) (ab c.1.2.1) (ae c.1.2.2) (.slice c.2.1.1 c.2.2.length c.2.1.2))):=by
    refine⟨c,by rw[S.out];rfl,dp Q.out (aj _),?_,l.out.2.2.1.mono λb aA=>ah (by omega),?_⟩
    ·rw[bj];exact In.off (λb aA=>aT (by omega) _ _ _ _) l.out.2.2.1 l.out.2.1
    ·rw[show JN n p=bW n p from by simpa using W.out];exact bD _ _ _ _ _ _ l.out.2.2.2 ay.out
   clear o i l Q X Y Z aa af W;go_wp2_with fail;exact ar (v:=.tuple #[.agg #[ab c.1.1,ab c.1.2.1,ae c.1.2.2,.slice c.2.1.1 c.2.2.length c.2.1.2],ab 0]) (by simp[results,Tryz.results34,go_sem,s,d1,t,u]) rfl au.out
  ·have s:e.cell? ⟨w.heap.size,0,none⟩=some (ab 0):=aq i.out 0;have d1:e.cell? ⟨w.heap.size,1,none⟩=some (ab 0):=aq i.out 1;have t:e.cell? ⟨w.heap.size,2,none⟩=some (ae ⟨#[]⟩):=aq i.out 2;have u:e.cell? ⟨w.heap.size,3,none⟩=some (.slice none 0 0):=aq i.out 3;have ag:=λz=>cO i.out z;have aI:(F !=0)=true:=by simpa using L
   clear i I X Y Z aa;go_wp2_with fail;exact ar (v:=.tuple #[.agg #[ab 0,ab 0,ae .empty,.slice none 0 0],ab F]) (by simp[results,Tryz.results34,go_sem,s,d1,t,u];rfl) rfl (Ez (dp G.out (aj _)) S.out.symm L)
theorem dP.ownAt{N B base k:Nat}{xs:List (Tm N)}{v:Value}{w0 wr W:World}(a:dP N B base xs v w0 wr)(c:xs.length=k)(b:ai wr W):W.ownsRow base 30 4 v k (xs.flatMap (gX N)):=by
 subst c;exact dG a.2.1 b
theorem dP.appAt{N B base k:Nat}{xs:List (Tm N)}{v:Value}{w0 wr W w4:World}{g c:Nat}(d:dP N B base xs v w0 wr)(n:xs.length=k)(f:B<=base)(l:base<=wr.heap.size)(e:ai wr W)(a:Tm N)(i:In W.heap.size W N a)(h:bZ (λb=>b<B\/wr.heap.size<=b) N a)(o:w4.ownsRow base 30 4 (.slice (some ⟨g,0,none⟩) (k+1) c) (k+1) (xs.flatMap (gX N)++gX N a))(m:W.grownBy w4 v.ownBlock)(j:v.ownBlock=some g\/g=W.heap.size):dP N B base (xs++ [a]) (.slice (some ⟨g,0,none⟩) (k+1) c) w0 w4:=by
 subst n;exact eU.step (dM N) d f l e a i h o m j
theorem qC(a:World)(o:Obj){g:Nat}(b:g=a.heap.size):(a.alloc o).drew.heap[g]?=some o:=by
 subst b;exact az a o
theorem wu(a:World)(o:Obj){g:Nat}(b:g=a.heap.size):(a.alloc o).heap[g]?=some o:=by
 subst b;exact az a o
def PL(b:Nat)(name:ByteArray)(a:Wd)(mv:Value):ci:=⟨b,1,[ae name],[ab a.1,ab a.2,mv],107⟩
def jl(Mh:Nat->Prop)(ma:Option Addr)(vs:List Wd)(a:Nat)(w:World):Prop:=
 (ma=none/\vs=[]/\a=0)\/∃c d b,ma=some ⟨c,d,none⟩/\¬Mh c/\w.heap[c]?=some (.cells b 105 (0,0))/\vs.length<=a/\a<=maxLen/\d+a*2<=b.size/\(b.toList.drop d).take (vs.length*2)=aU vs
def jz(N:Nat)(ws:List Wd)(nm:List ByteArray)(room:Int)(b:List Wd)(a:List (Tm N)):Prop:=
 gn ws nm N b a/\(b.flatMap (oq ws N)).Nodup/\(∀c∈a,bq N c=0/\aH N c=true)/\(a.map (sz N)).sum<=(ws.length:Int)/\(ws.length:Int)<=room/\0<=room/\room<=1000/\nm.Nodup
structure cv (base pb:Nat) (name:ByteArray) (room:Int) (N:Nat) (s:Tm N) (ms:List (Tm N)) (xs:List (Wd×Tm N)) (nk:Nat) (M:Nat->Prop) (w:World) (ws:List Wd) (nm:List ByteArray) (sv:Wd) (vs:List Wd) (ma:Option Addr) (mc:Nat) (Mh:Nat->Prop):Prop where
 heap:dy base (PL pb name sv (.slice ma vs.length mc)) room ws nm Mh w
 mail:jl Mh ma vs mc w
 has:jz N ws nm room (sv::vs++xs.map (·.1)) (s::ms++xs.map (·.2))
 len:vs.length=ms.length
 names:nm.length<=nk
 inM:∀b,Mh b->M b
 mailM:∀a,ma=some a->M a.block
theorem dy.box{base:Nat}{b:ci}{room:Int}{ws:List Wd}{nm:List ByteArray}{M:Nat->Prop}{w:World}(e:dy base b room ws nm M w):∃tv lv mv,HB b room tv lv mv w/\∃h i,tv=.slice h ws.length i:=by
 obtain⟨tv,lv,mv,f,g,_⟩:=e;refine⟨tv,lv,mv,f,?_⟩;rcases g.2 with⟨a,d⟩|⟨k,c,j,a,_⟩
 ·exact⟨none,0,by rw[a,d]⟩
 ·exact⟨_,c,a⟩
theorem PL.cells{a:Nat}{name:ByteArray}{b:Wd}{mv:Value}{room:Int}{tv lv mp:Value}{w:World}(d:HB (PL a name b mv) room tv lv mp w):w.cell? ⟨a,0,none⟩=some (ae name)/\w.cell? ⟨a,5,none⟩=some (ab b.1)/\w.cell? ⟨a,5+1,none⟩=some (ab b.2)/\w.cell? ⟨a,7,none⟩=some mv/\(∀j,w.frozen? ⟨a,j,none⟩=false)/\a<w.heap.size:=by
 have c:w.heap[a]?=some (.cells #[ae name,ab room,tv,lv,mp,ab b.1,ab b.2,mv] 107):=d.2;refine⟨?_,?_,?_,?_,λj=>?_,(aC.1 c).1⟩
 all_goals simp[World.cell?,World.frozen?,c]
end Go.Proofs.YtckamaoibonjcaaGreat
