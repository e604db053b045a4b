/- What is proved here: plain facts and contracts that the claimed theorem stands on. No condition but those that each names. -/
import Derived.Test.YtckamaoibonjcaaGreatG19
namespace Go.Proofs.YtckamaoibonjcaaGreat
open Go.RowKit
set_option maxHeartbeats 4000000
set_option maxRecDepth 100000
theorem Dv{B N base:Nat}(xs ys:List (Tm N)){w w1 w':World}{cs:Array Value}{g L:Nat}(m:base<=w1.heap.size)(p:g=w1.heap.size)(i:L=xs.length)(n:w.heap.size<=base)(s:∀b,b<B\/base<=b->b<(w1.alloc (.cells cs 30)).heap.size->w'.heap[b]?=(w1.alloc (.cells cs 30)).heap[b]?)(r:(w1.alloc (.cells cs 30)).heap.size<=w'.heap.size)(l:aj w w')(o:cs.toList=xs.flatMap (hU N))(u:xs.length<=8)(j:∀y∈xs,In w1.heap.size w1 N y/\bZ (λb=>b<B\/base<=b) N y)(q:aC (λa b=>ax N a N b) xs ys=true):io B (N+1) (cX N ys) w (.returned (.agg #[ab 4,ab 0,af ⟨#[]⟩,ae (some ⟨g,0,none⟩) L L])) w':=by
 have h:=eR.lit (T:=30) (k:=4) (B:=B) (base:=base) (dQ N) xs (w0:=w1) o (oC N) (by unfold maxLen;omega) m (ap _ _) j;obtain⟨a,c,d,k⟩:=dS.tells h n q s r l;injection d with e t f;subst e f i p;exact k
theorem dS.slice{N B base:Nat}{xs:List (Tm N)}{v:Value}{w0 wr:World}(b:dS N B base xs v w0 wr):∃a c,v=ae a xs.length c:=by
 rcases b.2.1.2 with⟨rfl,d⟩|⟨f,cap,e,rfl,_⟩
 ·exact⟨none,0,by rw[d]⟩
 ·exact⟨_,_,rfl⟩
theorem tx(N:Nat)(x:Tm N):∀b∈hU N x,b.oneCell'=true:=by
 intro b a;simp[hU,uF]at a;rcases a with rfl|rfl|rfl|rfl<;>rfl
theorem yU(w:World)(x:Nd){g:Nat}(d:g=w.heap.size):∀j b,(uF x)[j]?=some b->(w.alloc (.cells #[ab x.1.1,ab x.1.2.1,af x.1.2.2,ae x.2.1 x.2.2.1 x.2.2.2] 30)).cell? ((⟨g,0,none⟩:Addr).add j)=some b:=by
 subst d;intro j b a;rw[eS];have:j<4:=(aR.1 a).1;have c:j=0\/j=1\/j=2\/j=3:=by omega
 rcases c with rfl|rfl|rfl|rfl<;>simp[uF]at a<;>subst a<;>simp[go_sem]
theorem dS.app{N B base k:Nat}{xs:List (Tm N)}{v:Value}{w0 wr a w4:World}{g c:Nat}(h:dS N B base xs v w0 wr)(q:xs.length=k)(i:B<=base)(n:base<=wr.heap.size)(f:aj wr a)(d:Tm N)(l:In a.heap.size a N d)(j:bZ (λb=>b<B\/wr.heap.size<=b) N d){o:Obj}(r:w4.ownsRow base 30 4 (ae (some ⟨g,0,none⟩) (k+1) c) (k+1) (xs.flatMap (hU N)++hU N d))(p:(a.alloc o).grownBy w4 v.ownBlock)(m:v.ownBlock=some g\/g=a.heap.size+1):dS N B base (xs++ [d]) (ae (some ⟨g,0,none⟩) (k+1) c) w0 w4:=by
 subst q;have e:aj a (a.alloc o):=(ap _ _).alloc (ak _) _;exact eR.step (dQ N) h i n (f.trans (e.mono f.size)) d ((l.below e).mono e.size) j r p (by simpa using m)
theorem dS.own{N B base k:Nat}{xs:List (Tm N)}{v:Value}{w0 wr b:World}(c:dS N B base xs v w0 wr)(d:xs.length=k)(a:aj wr b)(o:Obj):(b.alloc o).ownsRow base 30 4 v k (xs.flatMap (hU N)):=by
 subst d;exact dJ c.2.1 (a.trans (((ap _ _).alloc (ak _) _).mono a.size))
theorem gw(w:World)(o:Obj){b:Nat}(a:b<w.heap.size):(w.alloc o).heap[b]?=w.heap[b]? :=(cZ w o none).block b a (by simp)
theorem ar{w:World}{q:Nat}{cs:Array Value}{t:TypeId}(a:w.heap[q]?=some (.cells cs t))(j:Nat):w.cell? ⟨q,j,none⟩=cs[j]? :=by simp[World.cell?,a]
theorem cP{w:World}{q:Nat}{cs:Array Value}{t:TypeId}(a:w.heap[q]?=some (.cells cs t))(j:Nat):w.frozen? ⟨q,j,none⟩=false:=by simp[World.frozen?,a]
theorem jR(w:World)(a c:Obj):((w.alloc a).alloc c).heap[w.heap.size]?=some a/\((w.alloc a).alloc c).heap[w.heap.size+1]?=some c:=by
 have f:=(gw (w.alloc a) c (b:=w.heap.size) (by simp)).trans (aB w a);have d:=aB (w.alloc a) c;have e:(w.alloc a).heap.size=w.heap.size+1:=by simp
 rw[e]at d;exact⟨f,d⟩
theorem yy{w:World}{r o:Nat}{v0 v1 v2 v3:Value}{B base:Nat}(d:B<=r)(e:r<base){W:World}(a:aj W w):∀b,b<B\/base<=b->b<W.heap.size->(cJ w r o v0 v1 v2 v3).heap[b]?=W.heap[b]? :=λb f c=>(aV (by omega) _ _ _ _).trans (a.block b c)
theorem du{w W:World}{r o:Nat}{v0 v1 v2 v3:Value}(a:aj w W)(d:w.heap.size<=r):aj w (cJ W r o v0 v1 v2 v3):=
 ⟨a.os,a.tape,a.output,ay a.size (dt (bm _ _ _ _).symm),λb c=>(aV (by omega) _ _ _ _).trans (a.block b c)⟩
theorem dS.tup{N B base k:Nat}{xs:List (Tm N)}{j:Option Addr}{l:Nat}{w0 wr:World}(q:dS N B base xs (ae j k l) w0 wr):In wr.heap.size wr (N+1) ((4,0,.empty),(j,l),xs)/\bZ (λb=>b<B\/base<=b) (N+1) ((4,0,.empty),(j,l),xs):=by
 obtain⟨s,c,a,m,r,e⟩:=q.lay (dQ N) (oC N);injection a with n t p;subst n p;refine⟨⟨⟨by simp[dn],by simp[dn],aE _,m.1,m.2⟩,?_⟩,?_⟩
 ·rcases r with d|⟨b,o,a,i,d⟩
  ·exact ah d
  ·exact ai ⟨b,o,a,i,λh g f=>⟨Ef (d h g f).2 (d h g f).1,(d h g f).2⟩⟩
 ·rcases e with e|⟨b,o,a,i,e⟩
  ·exact ah e
  ·exact ai ⟨b,o,a,i,λh g f=>e g (aG f)⟩
theorem xL{n B base:Nat}{s m x:Tm (n+1)}{w wr w1:World}{c:Tm (n+3)}{ys:List (Tm (n+2))}(k:B<=w.heap.size)(p:In B w (n+1) s)(o:In B w (n+1) m)(q:In B w (n+1) x)(l:aj w wr)(j:In wr.heap.size wr (n+3) c/\bZ (λb=>b<B\/base<=b) (n+3) c)(u:ax (n+3) c (n+3) (cX (n+2) ys)=true)(g:aj wr w1):(∀y∈[aY Ki (n+2),aO (n+3) (n+1) s,aO (n+3) (n+1) m,c,aO (n+3) (n+1) x],In w1.heap.size w1 (n+3) y/\bZ (λb=>b<B\/base<=b) (n+3) y)/\ aC (λa b=>ax (n+3) a (n+3) b) [aY Ki (n+2),aO (n+3) (n+1) s,aO (n+3) (n+1) m,c,aO (n+3) (n+1) x] [aY Ki (n+2),aO (n+3) (n+1) s,aO (n+3) (n+1) m,cX (n+2) ys,aO (n+3) (n+1) x]=true:=by
 have e:∀t:Tm (n+1),In B w (n+1) t->In w1.heap.size w1 (n+3) (aO (n+3) (n+1) t)/\bZ (λb=>b<B\/base<=b) (n+3) (aO (n+3) (n+1) t):=λt h=>by
  have i:=oo (n+3) (n+1) (by omega) t B w h;have d:=l.trans (g.mono l.size);exact⟨(i.below (d.mono k)).mono (ay k d.size),(ol i).mono λb d=>ah d⟩
 have f:∀t:Tm (n+1),In B w (n+1) t->ax (n+3) (aO (n+3) (n+1) t) (n+3) (aO (n+3) (n+1) t)=true:=λt h=>ld (oo (n+3) (n+1) (by omega) t B w h);refine⟨λy r=>?_,by simp only[aC,f s p,f m o,f x q,u,dM,ib]⟩;simp only[ch,gh,gq]at r;rcases r with rfl|rfl|rfl|rfl|rfl
 ·exact⟨gT _ _ (mY _ (by decide)) _ _,nW _ _ _⟩
 ·exact e s p
 ·exact e m o
 ·exact⟨(j.1.below g).mono g.size,j.2⟩
 ·exact e x q
theorem gg(N n:Nat)(x:Tm (n+1)):hU (N+1) (aO (N+1) (n+1) x)=hU (n+1) x:=by
 unfold hU;rw[La]
theorem xK(n:Nat)(s m x:Tm (n+1))(a:Option Addr)(b k:Nat)(xs:List (Tm (n+2)))(c:xs.length=k):[ab 2,ab 0,af ⟨#[111,110]⟩,ae none 0 0,ab s.1.1,ab s.1.2.1,af s.1.2.2,ae s.2.1.1 s.2.2.length s.2.1.2,ab m.1.1,ab m.1.2.1,af m.1.2.2,ae m.2.1.1 m.2.2.length m.2.1.2,ab 4,ab 0,af ⟨#[]⟩,ae a k b,ab x.1.1,ab x.1.2.1,af x.1.2.2,ae x.2.1.1 x.2.2.length x.2.1.2]=
     List.flatMap (hU (n+3)) [aY Ki (n+2),aO (n+3) (n+1) s,aO (n+3) (n+1) m,((4,0,.empty),(a,b),xs),aO (n+3) (n+1) x]:=by
 show _=hU (n+3) (aY Ki (n+2))++(hU (n+3) (aO (n+3) (n+1) s)++(hU (n+3) (aO (n+3) (n+1) m)++(hU (n+3) ((4,0,.empty),(a,b),xs)++(hU (n+3) (aO (n+3) (n+1) x)++ []))));rw[gg,gg,gg,<-c];rfl
theorem lA{a c:Type}(f:a->c)(p:List a)(k:Nat)(x:a)(b:p[k]?=some x):(p.take (k+1)).map f=(p.take k).map f++ [f x]:=by
 rw[dz,b];simp
def OF(n B:Nat)(p:List (Ac (n+1)))(w0:World)(base k:Nat)(v:Value)(wr:World):Prop:=
 ∃a,a.length=k/\dS (n+2) B base a v w0 wr/\aC (λc b=>ax (n+2) c (n+2) b) a ((p.take k).map (bY n))=true
theorem tb(n:Nat)(s m x:Tm (n+1))(p:List (Ac (n+1)))(len:Nat)(aE:Hid (p.length=len))(bA:len<=8)(a:Option Addr)(pc:Nat)(B:Nat)(w:World)(bh:Hid (In B w (n+1) s))(bd:Hid (In B w (n+1) m))(bi:Hid (In B w (n+1) x))(bf:Hid (px B w 11 (fW (n+1)) (ij (n+1) B w) a p))(al:B<=w.heap.size)(ad:Tm (n+4))(a7:Hid (ad=dw n ((s,m,x),(a,pc),p))):am 124 #[.agg #[ab s.1.1,ab s.1.2.1,af s.1.2.2,ae s.2.1.1 s.2.2.length s.2.1.2,ab m.1.1,ab m.1.2.1,af m.1.2.2,ae m.2.1.1 m.2.2.length m.2.1.2,ae a len pc,ab x.1.1,ab x.1.2.1,af x.1.2.2,ae x.2.1.1 x.2.2.length x.2.1.2]] w (io B (n+4) ad w):=by
 obtain⟨bj,aB,aF,aG,aI⟩:=bS ge;have G:=ao (⟨aB,aF,aG,aI⟩:_/\_/\_/\_);clear aB aF aG aI;go_enter Tryz.func124,Tryz.ntmps124;go_wp2_with fail;have F:=ao (jR w (.cells #[ab s.1.1,ab s.1.2.1,af s.1.2.2,ae s.2.1.1 s.2.2.length s.2.1.2,ab m.1.1,ab m.1.2.1,af m.1.2.2,ae m.2.1.1 m.2.2.length m.2.1.2,ae a len pc,ab x.1.1,ab x.1.2.1,af x.1.2.2,ae x.2.1.1 x.2.2.length x.2.1.2] 147) (.cells #[ab 0,ab 0,af ⟨#[]⟩,ae none 0 0] 30));generalize R:(w.alloc _).alloc _=z;rw[R]at F;have J:Hid (aj w z/\z.heap.size=w.heap.size+2):=by
  subst R;exact⟨((ap _ _).alloc (ak _) _).alloc (by simp) _,by simp⟩
 have V:Hid (∀wr,Below (w.heap.size+2) z wr->aj w wr):=λwr y=>J.out.1.trans (y.mono (by omega));go_loopw [3,9] (λv U wr=>∃(k:Nat)(aK:Value),k<=len/\U=ab k/\aK=v/\Hid (OF n B p z (w.heap.size+2) k aK wr)) (λ_ U _=>len-(intOf U).toNat)
 case atStart=>exact⟨0,_,by omega,rfl,rfl,[],rfl,eR.nil _,rfl⟩
 case round=>
  obtain⟨k,v,bB,rfl,rfl,Z⟩:=hrel;obtain⟨u,t,j,L⟩:∃u:List (Tm (n+2)),Hid (u.length=k)/\Hid (dS (n+2) B (w.heap.size+2) u v z wr)/\Hid (aC (λa b=>ax (n+2) a (n+2) b) u ((p.take k).map (bY n))=true):=Z.out;clear Z;have E:=ao (V.out wr j.out.1);have ba:w.heap.size+2<=wr.heap.size:=by have:=j.out.1.size;have:=J.out.2;omega
  by_cases bc:k<len
  ·obtain⟨e,T⟩:∃e,p[k]?=some e:=⟨p[k]'(by rw[aE.out];exact bc),aH _⟩;have aP:=ao (lA (bY n) p k e T);obtain⟨bk,po,rfl,bG,⟨bl,⟨bn,bp,bq,br⟩,⟨bs,bt,bu,bv⟩,bw,bo⟩,aA⟩:=(jX (fq (n+1)) (E.out.mono al) bf.out).ac k e T;have an:B<=wr.heap.size:=by omega
   have W:Hid (∀w1,aj wr w1->am 155 #[.agg #[ab e.1,ab e.2.1.1.1.1,ab e.2.1.1.1.2.1,af e.2.1.1.1.2.2,ae e.2.1.1.2.1.1 e.2.1.1.2.2.length e.2.1.1.2.1.2,ab e.2.1.2.1.1,ab e.2.1.2.1.2.1,af e.2.1.2.1.2.2,ae e.2.1.2.2.1.1 e.2.1.2.2.2.length e.2.1.2.2.1.2,af e.2.2.1,ab e.2.2.2]] w1 (io B (n+2) (bY n e) w1)):=
    λw1 aJ=>Bz n e B w1 ((fq (n+1)).below (aJ.mono an) aA) (ay an aJ.size)
   clear aA T;generalize bY n e=bx at*;have bD:(0:Int)<=(k:Int):=by omega
   have bE:(k:Int)<(len:Int):=by omega
   have bH:bk<wr.heap.size:=by omega
   obtain⟨l,q,C⟩:=j.out.slice;rw[t.out]at C;subst C;go_wp2_with fail;refine(W.out _ aM).mono ?_;rintro Q D ⟨i,rfl,H⟩;have K:Hid (aj wr D):=aM.trans (H.out.1.mono (by simp));have ag:dj (n+2) i=.agg #[ab i.1.1,ab i.1.2.1,af i.1.2.2,ae i.2.1.1 i.2.2.length i.2.1.2]:=rfl;rw[ag];have aR:=λ(o:Obj)(g c:Nat)(w4:World) be bb a8=>ao (j.out.app t.out (by omega) ba K.out i H.out.2.1 (H.out.2.2.1.mono λb a9=>by simp at a9;omega) (o:=o) (g:=g) (c:=c) (w4:=w4) be bb a8);have bz:wr.heap.size<=D.heap.size:=K.out.size;clear ag W bl bn bp bq br bs bt bu bv bw bo;go_wp2_with (at_builtin;refine wpList_append_lies _ rfl _ _ 28 rfl (w.heap.size+2) 30 bj _ 4 56 Tryz.underlying28 G.out.1 G.out.2.1 G.out.2.2.1 G.out.2.2.2 rfl (by decide) (ae l k q) k (u.flatMap (hU (n+2))) (by simp[Act.eval]) (j.out.own t.out K.out _) ⟨D.heap.size,0,none⟩ 1 1 (hU (n+2) i) (by simp[Act.eval]) rfl (yU D (gd (n+2) i) rfl) (tx _ _) (by decide) (by unfold maxLen;omega) (by omega) (by simp;omega) (D.heap.size+1) (by simp) ?_;intro a5 M w4 aD az aw bF;have aQ:=aR _ a5 M w4 aD az aw;clear aD az aw);go_roundw
   case rel=>exact⟨k+1,_,by omega,by go_num,rfl,u++ [i],by simp[t.out],aQ.out,by rw[aP.out];exact iF _ _ _ _ _ L.out H.out.2.2.2⟩
   case measure=>simp[intOf];omega
  ·obtain rfl:k=len:=by omega
   obtain⟨l,q,C⟩:=j.out.slice;rw[t.out]at C;subst C;have f:=ao (And.intro ((j.out.1.block w.heap.size (by omega)).trans F.out.1) ((j.out.1.block (w.heap.size+1) (by omega)).trans F.out.2));have aU:wr.cell? ⟨w.heap.size,0,none⟩=some (ab s.1.1):=ar f.out.1 0;have aV:wr.cell? ⟨w.heap.size,1,none⟩=some (ab s.1.2.1):=ar f.out.1 1;have aZ:wr.cell? ⟨w.heap.size,2,none⟩=some (af s.1.2.2):=ar f.out.1 2;have a0:wr.cell? ⟨w.heap.size,3,none⟩=some (ae s.2.1.1 s.2.2.length s.2.1.2):=ar f.out.1 3;have M:wr.cell? ⟨w.heap.size,4,none⟩=some (ab m.1.1):=ar f.out.1 4;have a1:wr.cell? ⟨w.heap.size,5,none⟩=some (ab m.1.2.1):=ar f.out.1 5;have a2:wr.cell? ⟨w.heap.size,6,none⟩=some (af m.1.2.2):=ar f.out.1 6;have a3:wr.cell? ⟨w.heap.size,7,none⟩=some (ae m.2.1.1 m.2.2.length m.2.1.2):=ar f.out.1 7;have a4:wr.cell? ⟨w.heap.size,9,none⟩=some (ab x.1.1):=ar f.out.1 9;have aW:wr.cell? ⟨w.heap.size,10,none⟩=some (ab x.1.2.1):=ar f.out.1 10;have aX:wr.cell? ⟨w.heap.size,11,none⟩=some (af x.1.2.2):=ar f.out.1 11;have aY:wr.cell? ⟨w.heap.size,12,none⟩=some (ae x.2.1.1 x.2.2.length x.2.1.2):=ar f.out.1 12;have N:wr.cell? ⟨w.heap.size+1,0,none⟩=some (ab 0):=ar f.out.2 0;have d1:wr.cell? ⟨w.heap.size+1,1,none⟩=some (ab 0):=ar f.out.2 1;have O:wr.cell? ⟨w.heap.size+1,2,none⟩=some (af ⟨#[]⟩):=ar f.out.2 2;have P:wr.cell? ⟨w.heap.size+1,3,none⟩=some (ae none 0 0):=ar f.out.2 3;have ah:=λI=>cP f.out.2 I;have bg:w.heap.size<wr.heap.size:=by omega
   have A:w.heap.size+1<wr.heap.size:=by omega
   have X:Hid (∀d,aj wr d->(d.cell? ⟨w.heap.size,0,none⟩=some (ab s.1.1)/\d.cell? ⟨w.heap.size,1,none⟩=some (ab s.1.2.1)/\d.cell? ⟨w.heap.size,2,none⟩=some (af s.1.2.2)/\d.cell? ⟨w.heap.size,3,none⟩=some (ae s.2.1.1 s.2.2.length s.2.1.2))/\
     (d.cell? ⟨w.heap.size,4,none⟩=some (ab m.1.1)/\d.cell? ⟨w.heap.size,5,none⟩=some (ab m.1.2.1)/\d.cell? ⟨w.heap.size,6,none⟩=some (af m.1.2.2)/\d.cell? ⟨w.heap.size,7,none⟩=some (ae m.2.1.1 m.2.2.length m.2.1.2))/\
     (d.cell? ⟨w.heap.size,9,none⟩=some (ab x.1.1)/\d.cell? ⟨w.heap.size,10,none⟩=some (ab x.1.2.1)/\d.cell? ⟨w.heap.size,11,none⟩=some (af x.1.2.2)/\d.cell? ⟨w.heap.size,12,none⟩=some (ae x.2.1.1 x.2.2.length x.2.1.2))):=λd y=>by
    have h:=λo=>aq y w.heap.size o bg;exact⟨⟨(h _).trans aU,(h _).trans aV,(h _).trans aZ,(h _).trans a0⟩,⟨(h _).trans M,(h _).trans a1,(h _).trans a2,(h _).trans a3⟩,(h _).trans a4,(h _).trans aW,(h _).trans aX,(h _).trans aY⟩
   have aa:Hid True:=trivial;have aN:=λ(w1:World)(a6:aj wr w1)=>ao (xL (base:=w.heap.size+2) (ys:=p.map (bY n)) (w1:=w1) al bh.out bd.out bi.out E.out j.out.tup (da rfl (by have y:=L.out;rw[bC (by rw[aE.out];omega)]at y;exact y)) a6);have aO:=ao t.out;clear R j t L f V J F;go_wp2_with fail
   go_region_held3 (λd=>(d.cell? ⟨w.heap.size,0,none⟩=some (ab s.1.1)/\d.cell? ⟨w.heap.size,1,none⟩=some (ab s.1.2.1)/\d.cell? ⟨w.heap.size,2,none⟩=some (af s.1.2.2)/\d.cell? ⟨w.heap.size,3,none⟩=some (ae s.2.1.1 s.2.2.length s.2.1.2))/\
       (d.cell? ⟨w.heap.size,4,none⟩=some (ab m.1.1)/\d.cell? ⟨w.heap.size,5,none⟩=some (ab m.1.2.1)/\d.cell? ⟨w.heap.size,6,none⟩=some (af m.1.2.2)/\d.cell? ⟨w.heap.size,7,none⟩=some (ae m.2.1.1 m.2.2.length m.2.1.2))/\
       (d.cell? ⟨w.heap.size,9,none⟩=some (ab x.1.1)/\d.cell? ⟨w.heap.size,10,none⟩=some (ab x.1.2.1)/\d.cell? ⟨w.heap.size,11,none⟩=some (af x.1.2.2)/\d.cell? ⟨w.heap.size,12,none⟩=some (ae x.2.1.1 x.2.2.length x.2.1.2))) (first|(go_keep;done)|exact X.out _ r.out|(refine X.out _ ?_;go_grown;done))
    ((first
     | (go_at_call 87;refine(ir _ _).mono ?_;rintro Q w1 ⟨rfl,rfl⟩)
     | (go_at_call 89;have aT:=aa;clear aa;refine(fx _ _ _ _).mono ?_;rintro Q w1 ⟨rfl,rfl⟩)
     | (go_at_call 89;clear aT;refine(fx _ _ _ _).mono ?_;rintro Q aL ⟨rfl,S⟩;have r:=ao (show aj wr aL by rw[S];go_grown);have aS:=ao S;clear S;replace N:=(aq r.out _ _ A).trans N;replace d1:=(aq r.out _ _ A).trans d1;replace O:=(aq r.out _ _ A).trans O;replace P:=(aq r.out _ _ A).trans P;replace ah:=λI=>(gz r.out _ I A).trans (ah I))))
   go_wp2_with fail;refine av (v:=.agg #[ab 4,ab 0,af ⟨#[]⟩,ae (some ⟨wr.heap.size+1+1,0,none⟩) 5 5]) (by simp[results,Tryz.results124,go_sem,N,d1,O,P]) rfl ?_;rw[a7.out];have au:aj wr ((wr.alloc (.cells #[ab 2,ab 0,af ⟨#[111,110]⟩,ae none 0 0] 30)).alloc (.cells #[ab 4,ab 0,af ⟨#[]⟩,ae l k q] 30)):=by go_grown
   have ai:Below (((wr.alloc (.cells #[ab 2,ab 0,af ⟨#[111,110]⟩,ae none 0 0] 30)).alloc (.cells #[ab 4,ab 0,af ⟨#[]⟩,ae l k q] 30)).alloc (.cells #[ab 2,ab 0,af ⟨#[111,110]⟩,ae none 0 0,ab s.1.1,ab s.1.2.1,af s.1.2.2,ae s.2.1.1 s.2.2.length s.2.1.2,ab m.1.1,ab m.1.2.1,af m.1.2.2,ae m.2.1.1 m.2.2.length m.2.1.2,ab 4,ab 0,af ⟨#[]⟩,ae l k q,ab x.1.1,ab x.1.2.1,af x.1.2.2,ae x.2.1.1 x.2.2.length x.2.1.2] 30)).heap.size (((wr.alloc (.cells #[ab 2,ab 0,af ⟨#[111,110]⟩,ae none 0 0] 30)).alloc (.cells #[ab 4,ab 0,af ⟨#[]⟩,ae l k q] 30)).alloc (.cells #[ab 2,ab 0,af ⟨#[111,110]⟩,ae none 0 0,ab s.1.1,ab s.1.2.1,af s.1.2.2,ae s.2.1.1 s.2.2.length s.2.1.2,ab m.1.1,ab m.1.2.1,af m.1.2.2,ae m.2.1.1 m.2.2.length m.2.1.2,ab 4,ab 0,af ⟨#[]⟩,ae l k q,ab x.1.1,ab x.1.2.1,af x.1.2.2,ae x.2.1.1 x.2.2.length x.2.1.2] 30)) aL:=by rw[aS.out];go_grown
   have Y:=aN _ au;exact Dv (B:=B) (base:=w.heap.size+2) _ _ (by have:=au.size;omega) (by simp) rfl (by omega) (yy (by omega) (by omega) ai) (ay ai.size (dt (bm _ _ _ _).symm)) (du (E.out.trans (r.out.mono E.out.size)) (by omega)) (xK n s m x l q k u aO.out) (by show 5<=8;omega) Y.out.1 Y.out.2
theorem vb(n:Nat)(c:Cl (n+1))(B:Nat)(w:World)(a:gO (n+1) B w c)(e:c.2.2.length<=8)(f:B<=w.heap.size):am 124 #[.agg (eK (n+1) c).toArray] w (io B (n+4) (dw n c) w):=by
 obtain⟨⟨h,g,i⟩,⟨d,pc⟩,b⟩:=c;exact tb n h g i b b.length rfl e d pc B w a.1.1 a.1.2.1 a.1.2.2 a.2.2 f _ rfl
def OI(n B:Nat)(d:List (Tm (n+4)))(p:List (Cl (n+1)))(w0:World)(base k:Nat)(v:Value)(wr:World):Prop:=
 ∃a,a.length=k+2/\dS (n+4) B base a v w0 wr/\aC (λc b=>ax (n+4) c (n+4) b) a (d++(p.take k).map (dw n))=true
theorem pW(n:Nat)(s:ByteArray)(ba:s.size<=maxLen)(p:List (Cl (n+1)))(len:Nat)(aI:Hid (p.length=len))(bx:len<=6)(a2:Hid (∀c∈p,c.2.2.length<=8))(a:Option Addr)(pc:Nat)(B:Nat)(w:World)(a9:Hid (px B w 13 (eK (n+1)) (gO (n+1) B w) a p))(a3:B<=w.heap.size)(ag:Tm (n+5))(a4:Hid (ag=dF n (s,(a,pc),p))):am 88 #[.agg #[af s,ae a len pc]] w (io B (n+5) ag w):=by
 obtain⟨bc,aE,aK,aL,aN⟩:=bS ge;have A:=ao (⟨aE,aK,aL,aN⟩:_/\_/\_/\_);clear aE aK aL aN;go_enter Tryz.func88,Tryz.ntmps88;go_wp2_with fail;have O:=ao (jR w (.cells #[af s,ae a len pc] 138) (.cells #[ab 0,ab 0,af ⟨#[]⟩,ae none 0 0] 30)).2;have z:=ao (jR w (.cells #[af s,ae a len pc] 138) (.cells #[ab 0,ab 0,af ⟨#[]⟩,ae none 0 0] 30)).1;generalize S:(w.alloc _).alloc _=e;rw[S]at O z;have j:Hid (aj w e/\e.heap.size=w.heap.size+2):=by
  subst S;exact⟨((ap _ _).alloc (ak _) _).alloc (by simp) _,by simp⟩
 have aQ:Hid (∀wr,Below (w.heap.size+2) e wr->aj w wr):=λwr h=>j.out.1.trans (h.mono (by omega));clear S;have ah:e.cell? ⟨w.heap.size,0,none⟩=some (af s):=ar z.out 0;have ai:e.cell? ⟨w.heap.size,1,none⟩=some (ae a len pc):=ar z.out 1;have aJ:w.heap.size<e.heap.size:=by have:=j.out.2;omega
 have M:Hid (∀w',aj e w'->w'.cell? ⟨w.heap.size,0,none⟩=some (af s)/\w'.cell? ⟨w.heap.size,1,none⟩=some (ae a len pc)):=λw' h=>⟨(aq h _ _ aJ).trans ah,(aq h _ _ aJ).trans ai⟩;clear z
 go_region_held3 (λw'=>w'.cell? ⟨w.heap.size,0,none⟩=some (af s)/\w'.cell? ⟨w.heap.size,1,none⟩=some (ae a len pc)) (first|(go_keep;done)|(refine M.out _ ?_;go_grown;done))
  ((go_at_call 87;refine(ir _ _).mono ?_;rintro D w1 ⟨rfl,rfl⟩))
 have aa:Hid (aC (λa b=>ax (n+4) a (n+4) b) [aY te (n+3),aY s (n+3)] ([aY te (n+3),aY s (n+3)]++(p.take 0).map (dw n))=true):=by
  show _=true;simp[aC,dM]
 have L:Hid (dS (n+4) B (w.heap.size+2) [aY te (n+3),aY s (n+3)] (ae (some ⟨e.heap.size+1+1,0,none⟩) 2 2) e (((e.alloc (.cells #[ab 2,ab 0,af ⟨#[98,101,104]⟩,ae none 0 0] 30)).alloc (.cells #[ab 2,ab 0,af s,ae none 0 0] 30)).alloc (.cells #[ab 2,ab 0,af ⟨#[98,101,104]⟩,ae none 0 0,ab 2,ab 0,af s,ae none 0 0] 30)).drew):=by
  have h:=eR.lit (T:=30) (k:=4) (B:=B) (base:=w.heap.size+2) (dQ (n+4)) [aY te (n+3),aY s (n+3)] (w0:=e) (w1:=(e.alloc (.cells #[ab 2,ab 0,af ⟨#[98,101,104]⟩,ae none 0 0] 30)).alloc (.cells #[ab 2,ab 0,af s,ae none 0 0] 30)) (cs:= #[ab 2,ab 0,af ⟨#[98,101,104]⟩,ae none 0 0,ab 2,ab 0,af s,ae none 0 0]) rfl (oC _) (by show 2<=maxLen;unfold maxLen;omega) (by have:=j.out.2;simp;omega) (((ap _ _).alloc (by have:=j.out.2;omega) _).alloc (by have:=j.out.2;simp;omega) _) (λd m=>by
   simp only[ch,gh,gq]at m;rcases m with rfl|rfl
   ·exact⟨gT _ _ (mY _ (by decide)) _ _,nW _ _ _⟩
   ·exact⟨gT _ _ ba _ _,nW _ _ _⟩)
  have D:((e.alloc (.cells #[ab 2,ab 0,af ⟨#[98,101,104]⟩,ae none 0 0] 30)).alloc (.cells #[ab 2,ab 0,af s,ae none 0 0] 30)).heap.size=e.heap.size+1+1:=by simp
  rw[D]at h;exact h.later (dQ _) (by have:=j.out.2;simp;omega) (ap _ _).drew
 have N:=ao (M.out _ (show aj e (((e.alloc (.cells #[ab 2,ab 0,af ⟨#[98,101,104]⟩,ae none 0 0] 30)).alloc (.cells #[ab 2,ab 0,af s,ae none 0 0] 30)).alloc (.cells #[ab 2,ab 0,af ⟨#[98,101,104]⟩,ae none 0 0,ab 2,ab 0,af s,ae none 0 0] 30)).drew by go_grown));generalize aw:(((e.alloc _).alloc _).alloc _).drew=aX;rw[aw]at L N;have bG:aX.cell? ⟨w.heap.size,1,none⟩=some (ae a len pc):=N.out.2;clear aw M N ah ai;go_wp2_with fail;go_loopw [3,14] (λv V wr=>∃(k:Nat)(aP:Value),k<=len/\V=ab k/\aP=v/\Hid (OI n B ([aY te (n+3),aY s (n+3)]) p e (w.heap.size+2) k aP wr)) (λ_ V _=>len-(intOf V).toNat)
 case atStart=>exact⟨0,_,by omega,rfl,rfl,_,rfl,L.out,aa.out⟩
 case round=>
  clear L aa;obtain⟨k,v,bz,rfl,rfl,ad⟩:=hrel;obtain⟨t,q,i,Z⟩:∃t:List (Tm (n+4)),Hid (t.length=k+2)/\Hid (dS (n+4) B (w.heap.size+2) t v e wr)/\Hid (aC (λa b=>ax (n+4) a (n+4) b) t (([aY te (n+3),aY s (n+3)])++(p.take k).map (dw n))=true):=ad.out;clear ad;have K:=ao (aQ.out wr i.out.1);have aA:w.heap.size+2<=wr.heap.size:=by have:=i.out.1.size;have:=j.out.2;omega
  by_cases a7:k<len
  ·obtain⟨d,m⟩:∃d,p[k]?=some d:=⟨p[k]'(by rw[aI.out];exact a7),aH _⟩;have aS:=ao (lA (dw n) p k d m);obtain⟨bd,po,rfl,bE,⟨⟨be,bf,bj,bk⟩,⟨bl,bn,bo,bp⟩,bq,br,bg,bh,bi⟩,aD⟩:=(jX (dX (n+1)) (K.out.mono a3) a9.out).cl k d m;have au:B<=wr.heap.size:=by omega
   have aV:=ao m
   have Y:Hid (∀w1,aj wr w1->am 124 #[.agg #[ab d.1.1.1.1,ab d.1.1.1.2.1,af d.1.1.1.2.2,ae d.1.1.2.1.1 d.1.1.2.2.length d.1.1.2.1.2,ab d.1.2.1.1.1,ab d.1.2.1.1.2.1,af d.1.2.1.1.2.2,ae d.1.2.1.2.1.1 d.1.2.1.2.2.length d.1.2.1.2.1.2,ae d.2.1.1 d.2.2.length d.2.1.2,ab d.1.2.2.1.1,ab d.1.2.2.1.2.1,af d.1.2.2.1.2.2,ae d.1.2.2.2.1.1 d.1.2.2.2.2.length d.1.2.2.2.1.2]] w1 (io B (n+4) (dw n d) w1)):=
    λw1 F=>vb n d B w1 ((dX (n+1)).below (F.mono au) aD) (a2.out d (aG aV.out)) (ay au F.size)
   clear aD m;generalize dw n d=bs at*;have bA:(0:Int)<=(k:Int):=by omega
   have bB:(k:Int)<(len:Int):=by omega
   have bF:bd<wr.heap.size:=by omega
   obtain⟨H,I,x⟩:=i.out.slice;rw[q.out]at x;subst x;go_wp2_with fail;refine(Y.out _ aM).mono ?_;rintro D y ⟨f,rfl,C⟩;have J:Hid (aj wr y):=aM.trans (C.out.1.mono (by simp));have E:dj (n+4) f=.agg #[ab f.1.1,ab f.1.2.1,af f.1.2.2,ae f.2.1.1 f.2.2.length f.2.1.2]:=rfl;rw[E];have aU:=λ(o:Obj)(g c:Nat)(w4:World) a8 a6 a5=>ao (i.out.app q.out (by omega) aA J.out f C.out.2.1 (C.out.2.2.1.mono λb U=>by simp at U;omega) (o:=o) (g:=g) (c:=c) (w4:=w4) a8 a6 a5);have bw:wr.heap.size<=y.heap.size:=J.out.size;clear E Y be bf bj bk bl bn bo bp bq br bg bh bi;go_wp2_with (at_builtin;refine wpList_append_lies _ rfl _ _ 28 rfl (w.heap.size+2) 30 bc _ 4 56 Tryz.underlying28 A.out.1 A.out.2.1 A.out.2.2.1 A.out.2.2.2 rfl (by decide) (ae H (k+2) I) (k+2) (t.flatMap (hU (n+4))) (by simp[Act.eval]) (i.out.own q.out J.out _) ⟨y.heap.size,0,none⟩ 1 1 (hU (n+4) f) (by simp[Act.eval]) rfl (yU y (gd (n+4) f) rfl) (tx _ _) (by decide) (by unfold maxLen;omega) (by omega) (by simp;omega) (y.heap.size+1) (by simp) ?_;intro a1 aZ w4 aF aB az bD;have aT:=aU _ a1 aZ w4 aF aB az;clear aF aB az);go_roundw
   case rel=>exact⟨k+1,_,by omega,by go_num,rfl,t++ [f],by have:=q.out;simp;omega,aT.out,by rw[aS.out,<-mj];exact iF _ _ _ _ _ Z.out C.out.2.2.2⟩
   case measure=>simp[intOf];omega
  ·obtain rfl:k=len:=by omega
   obtain⟨H,I,x⟩:=i.out.slice;rw[q.out]at x;subst x;have r:=ao ((i.out.1.block (w.heap.size+1) (by omega)).trans O.out);have P:wr.cell? ⟨w.heap.size+1,0,none⟩=some (ab 0):=ar r.out 0;have d1:wr.cell? ⟨w.heap.size+1,1,none⟩=some (ab 0):=ar r.out 1;have Q:wr.cell? ⟨w.heap.size+1,2,none⟩=some (af ⟨#[]⟩):=ar r.out 2;have R:wr.cell? ⟨w.heap.size+1,3,none⟩=some (ae none 0 0):=ar r.out 3;have an:=λG=>cP r.out G;have u:w.heap.size+1<wr.heap.size:=by omega
   have aR:=λ(aW w':World) U F bb=>ao (dS.tells (w:=w) (ys:=([aY te (n+3),aY s (n+3)])++p.map (dw n)) (w':=w') (i.out.later (dQ _) aA (w1:=aW) U) (by omega) (by have h:=Z.out;rw[bC (by rw[aI.out];omega)]at h;exact h) F bb);clear r O;go_wp2_with (go_at_call 89;refine(fx _ _ _ _).mono ?_;rintro D W ⟨rfl,aO⟩;have l:=ao (show aj wr W by rw[aO];go_grown);clear aO;replace P:=(aq l.out _ _ u).trans P;replace d1:=(aq l.out _ _ u).trans d1;replace Q:=(aq l.out _ _ u).trans Q;replace R:=(aq l.out _ _ u).trans R;replace an:=λG=>(gz l.out _ G u).trans (an G));refine av (v:=.agg #[ab 4,ab 0,af ⟨#[]⟩,ae H (k+2) I]) (by simp[results,Tryz.results88,go_sem,P,d1,Q,R]) rfl ?_;rw[a4.out];obtain⟨bt,bu,al,X⟩:=(aR W (cJ W (w.heap.size+1) 0 (ab 4) (ab 0) (af ⟨#[]⟩) (ae H (k+2) I)) l.out (yy (by omega) (by omega) (ap _ _)) (dt (bm _ _ _ _).symm)).out (du (K.out.trans (l.out.mono K.out.size)) (by omega));rw[q.out]at al X;injection al with a0 bv E;subst a0 E;exact X
theorem qW(n:Nat)(b:Bh (n+1))(B:Nat)(w:World)(a:oU (n+1) B w b)(f:b.2.2.length<=6)(g:∀c∈b.2.2,c.2.2.length<=8)(h:B<=w.heap.size):am 88 #[.agg (oW (n+1) b).toArray] w (io B (n+5) (dF n b) w):=by
 obtain⟨i,⟨e,pc⟩,d⟩:=b;exact pW n i a.1 d d.length rfl f g e pc B w a.2.2 h _ rfl
def OL(n B:Nat)(d:List (Tm (n+5)))(p:List (Bh (n+1)))(w0:World)(base k:Nat)(v:Value)(wr:World):Prop:=
 ∃a,a.length=k+1/\dS (n+5) B base a v w0 wr/\aC (λc b=>ax (n+5) c (n+5) b) a (d++(p.take k).map (dF n))=true
theorem rY(n:Nat)(p:List (Bh (n+1)))(len:Nat)(aD:Hid (p.length=len))(be:len<=7)(ag:Hid (∀b∈p,b.2.2.length<=6/\∀c∈b.2.2,c.2.2.length<=8))(a:Option Addr)(pc:Nat)(B:Nat)(w:World)(a2:Hid (gP (n+1) B w a p))(aV:B<=w.heap.size)(Z:Tm (n+6))(aW:Hid (Z=bW n p)):am 59 #[ae a len pc] w (io B (n+6) Z w):=by
 obtain⟨a4,az,aE,aF,aI⟩:=bS ge;have y:=ao (⟨az,aE,aF,aI⟩:_/\_/\_/\_);clear az aE aF aI;go_enter Tryz.func59,Tryz.ntmps59;go_wp2_with (go_at_call 87;refine(ir _ _).mono ?_;rintro A w1 ⟨rfl,rfl⟩);have K:=ao (aB w (.cells #[ab 0,ab 0,af ⟨#[]⟩,ae none 0 0] 30));have W:Hid (aC (λa b=>ax (n+5) a (n+5) b) [aY nn (n+4)] ([aY nn (n+4)]++(p.take 0).map (dF n))=true):=by
  show _=true;simp[aC,dM]
 generalize O:w.alloc (.cells #[ab 0,ab 0,af ⟨#[]⟩,ae none 0 0] 30)=e;rw[O]at K;have s:Hid (aj w e/\e.heap.size=w.heap.size+1):=by
  subst O;exact⟨(ap _ _).alloc (ak _) _,by simp⟩
 have aL:Hid (∀wr,Below (w.heap.size+1) e wr->aj w wr):=λwr j=>s.out.1.trans (j.mono (by omega));clear O;have J:Hid (dS (n+5) B (w.heap.size+1) [aY nn (n+4)] (ae (some ⟨w.heap.size+1+1,0,none⟩) 1 1) e ((e.alloc (.cells #[ab 2,ab 0,af ⟨#[99,111,100,101]⟩,ae none 0 0] 30)).alloc (.cells #[ab 2,ab 0,af ⟨#[99,111,100,101]⟩,ae none 0 0] 30))):=by
  have j:=eR.lit (T:=30) (k:=4) (B:=B) (base:=w.heap.size+1) (dQ (n+5)) [aY nn (n+4)] (w0:=e) (w1:=e.alloc (.cells #[ab 2,ab 0,af ⟨#[99,111,100,101]⟩,ae none 0 0] 30)) (cs:= #[ab 2,ab 0,af ⟨#[99,111,100,101]⟩,ae none 0 0]) rfl (oC _) (by show 1<=maxLen;unfold maxLen;omega) (by have:=s.out.2;simp;omega) ((ap _ _).alloc (by have:=s.out.2;omega) _) (λd l=>by
   simp only[ch,gh,gq]at l;subst l
   exact⟨gT _ _ (mY _ (by decide)) _ _,nW _ _ _⟩)
  have A:(e.alloc (.cells #[ab 2,ab 0,af ⟨#[99,111,100,101]⟩,ae none 0 0] 30)).heap.size=w.heap.size+1+1:=by have:=s.out.2;simp;omega
  rw[A]at j;exact j
 generalize ai:(e.alloc _).alloc _=a8;rw[ai]at J;clear ai;go_loopw [3,10] (λv Q wr=>∃(k:Nat)(aK:Value),k<=len/\Q=ab k/\aK=v/\Hid (OL n B ([aY nn (n+4)]) p e (w.heap.size+1) k aK wr)) (λ_ Q _=>len-(intOf Q).toNat)
 case atStart=>exact⟨0,_,by omega,rfl,rfl,_,rfl,J.out,W.out⟩
 case round=>
  clear J W;obtain⟨k,v,bf,rfl,rfl,X⟩:=hrel;obtain⟨r,m,h,V⟩:∃r:List (Tm (n+5)),Hid (r.length=k+1)/\Hid (dS (n+5) B (w.heap.size+1) r v e wr)/\Hid (aC (λa b=>ax (n+5) a (n+5) b) r (([aY nn (n+4)])++(p.take k).map (dF n))=true):=X.out;clear X;have I:=ao (aL.out wr h.out.1);have an:w.heap.size+1<=wr.heap.size:=by have:=h.out.1.size;have:=s.out.2;omega
  by_cases a0:k<len
  ·obtain⟨d,l⟩:∃d,p[k]?=some d:=⟨p[k]'(by rw[aD.out];exact a0),aH _⟩;have aO:=ao (lA (dF n) p k d l);obtain⟨a5,po,rfl,bk,⟨a6,a7⟩,aw⟩:=(gP.below (I.out.mono aV) a2.out).bh k d l;have ah:B<=wr.heap.size:=by omega
   have Y:=ao l
   have U:Hid (∀w1,aj wr w1->am 88 #[.agg #[af d.1,ae d.2.1.1 d.2.2.length d.2.1.2]] w1 (io B (n+5) (dF n d) w1)):=
    λw1 D=>qW n d B w1 ((dN (n+1)).below (D.mono ah) aw) (ag.out d (aG Y.out)).1 (ag.out d (aG Y.out)).2 (ay ah D.size)
   clear aw l;generalize dF n d=a9 at*;have bg:(0:Int)<=(k:Int):=by omega
   have bi:(k:Int)<(len:Int):=by omega
   have bl:a5<wr.heap.size:=by omega
   obtain⟨F,G,u⟩:=h.out.slice;rw[m.out]at u;subst u;go_wp2_with fail;refine(U.out _ aM).mono ?_;rintro A x ⟨f,rfl,z⟩;have H:Hid (aj wr x):=aM.trans (z.out.1.mono (by simp));have C:dj (n+5) f=.agg #[ab f.1.1,ab f.1.2.1,af f.1.2.2,ae f.2.1.1 f.2.2.length f.2.1.2]:=rfl;rw[C];have aQ:=λ(o:Obj)(g c:Nat)(w4:World) a1 aZ aX=>ao (h.out.app m.out (by omega) an H.out f z.out.2.1 (z.out.2.2.1.mono λb P=>by simp at P;omega) (o:=o) (g:=g) (c:=c) (w4:=w4) a1 aZ aX);have bd:wr.heap.size<=x.heap.size:=H.out.size;clear C U a6 a7;go_wp2_with (at_builtin;refine wpList_append_lies _ rfl _ _ 28 rfl (w.heap.size+1) 30 a4 _ 4 56 Tryz.underlying28 y.out.1 y.out.2.1 y.out.2.2.1 y.out.2.2.2 rfl (by decide) (ae F (k+1) G) (k+1) (r.flatMap (hU (n+5))) (by simp[Act.eval]) (h.out.own m.out H.out _) ⟨x.heap.size,0,none⟩ 1 1 (hU (n+5) f) (by simp[Act.eval]) rfl (yU x (gd (n+5) f) rfl) (tx _ _) (by decide) (by unfold maxLen;omega) (by omega) (by simp;omega) (x.heap.size+1) (by simp) ?_;intro aU aS w4 aA au al bj;have aP:=aQ _ aU aS w4 aA au al;clear aA au al);go_roundw
   case rel=>exact⟨k+1,_,by omega,by go_num,rfl,r++ [f],by have:=m.out;simp;omega,aP.out,by rw[aO.out,<-mj];exact iF _ _ _ _ _ V.out z.out.2.2.2⟩
   case measure=>simp[intOf];omega
  ·obtain rfl:k=len:=by omega
   obtain⟨F,G,u⟩:=h.out.slice;rw[m.out]at u;subst u;have q:=ao ((h.out.1.block (w.heap.size) (by omega)).trans K.out);have L:wr.cell? ⟨w.heap.size,0,none⟩=some (ab 0):=ar q.out 0;have d1:wr.cell? ⟨w.heap.size,1,none⟩=some (ab 0):=ar q.out 1;have M:wr.cell? ⟨w.heap.size,2,none⟩=some (af ⟨#[]⟩):=ar q.out 2;have N:wr.cell? ⟨w.heap.size,3,none⟩=some (ae none 0 0):=ar q.out 3;have ad:=λE=>cP q.out E;have t:w.heap.size<wr.heap.size:=by omega
   have aN:=λ(aR w':World) P D a3=>ao (dS.tells (w:=w) (ys:=([aY nn (n+4)])++p.map (dF n)) (w':=w') (h.out.later (dQ _) an (w1:=aR) P) (by omega) (by have j:=V.out;rw[bC (by rw[aD.out];omega)]at j;exact j) D a3);clear q K;go_wp2_with (go_at_call 89;refine(fx _ _ _ _).mono ?_;rintro A R ⟨rfl,aJ⟩;have i:=ao (show aj wr R by rw[aJ];go_grown);clear aJ;replace L:=(aq i.out _ _ t).trans L;replace d1:=(aq i.out _ _ t).trans d1;replace M:=(aq i.out _ _ t).trans M;replace N:=(aq i.out _ _ t).trans N;replace ad:=λE=>(gz i.out _ E t).trans (ad E));refine av (v:=.agg #[ab 4,ab 0,af ⟨#[]⟩,ae F (k+1) G]) (by simp[results,Tryz.results59,go_sem,L,d1,M,N]) rfl ?_;rw[aW.out];obtain⟨ba,bb,aa,S⟩:=(aN R (cJ R (w.heap.size) 0 (ab 4) (ab 0) (af ⟨#[]⟩) (ae F (k+1) G)) i.out (yy (by omega) (by omega) (ap _ _)) (dt (bm _ _ _ _).symm)).out (du (I.out.trans (i.out.mono I.out.size)) (by omega));rw[m.out]at aa S;injection aa with aT bc C;subst aT C;exact S
theorem td(n:Nat)(p:List (Bh (n+1)))(a:Option Addr)(pc:Nat)(B:Nat)(w:World)(g:gP (n+1) B w a p)(d:p.length<=7)(e:∀b∈p,b.2.2.length<=6/\∀c∈b.2.2,c.2.2.length<=8)(f:B<=w.heap.size):am 59 #[ae a p.length pc] w (io B (n+6) (bW n p) w):=
 rY n p p.length rfl d e a pc B w g f _ rfl
def zT(N:Nat):Tm (N+1):=((0,0,.empty),(none,0),[])
def nt(n:Nat)(p:List (Bh (n+1))):Int:=if jY (n+1) p then bu (n+6) (bW n p)else 5
def JL(n:Nat)(p:List (Bh (n+1))):Tm (n+6):=if nt n p=0 then bW n p else zT (n+5)
def Ha(B n:Nat)(p:List (Bh (n+1)))(w:World)(e:Ending)(w':World):Prop:=
 ∃a:Tm (n+6),e=.returned (.tuple #[dj (n+6) a,ab (nt n p)])/\Hid (aj w w'/\In w'.heap.size w' (n+6) a/\bZ (λb=>b<B\/w.heap.size<=b) (n+6) a/\ax (n+6) a (n+6) (JL n p)=true)
theorem kP(N B:Nat)(w:World):In B w (N+1) (zT N):=⟨⟨by simp[zT,dn],by simp[zT,dn],aE _,by simp[zT],by simp[zT]⟩,ah rfl⟩
theorem EF{B n:Nat}{p:List (Bh (n+1))}{w w':World}{k:Int}(b:aj w w')(c:k=nt n p)(a:¬k=0):Ha B n p w (.returned (.tuple #[.agg #[ab 0,ab 0,af .empty,ae none 0 0],ab k])) w':=by
 subst c;refine⟨zT (n+5),rfl,b,kP _ _ _,ah rfl,?_⟩;unfold JL;rw[if_neg a];exact ld (kP _ 0 w)
theorem wK{n:Nat}{p:List (Bh n)}(a:jY n p=true):p.length<=7/\∀b∈p,b.2.2.length<=6/\∀c∈b.2.2,c.2.2.length<=8:=by
 simp only[jY,vv,sQ,aA,bU,b9]at a;refine⟨by omega,λb d=>⟨by have:=(a.2 b d).1.2;omega,λc e=>by have:=((a.2 b d).2 c e).1;omega⟩⟩
theorem qt(w:World)(v0 v1 v2 v3:Value)(t:TypeId){w':World}(a:Below (w.alloc (.cells #[v0,v1,v2,v3] t)).heap.size (w.alloc (.cells #[v0,v1,v2,v3] t)) w'):w'.heap[w.heap.size]?=some (.cells #[v0,v1,v2,v3] t):=
 (a.block _ (by simp)).trans (aB w _)
theorem JM(n:Nat)(p:List (Bh (n+1)))(a:Option Addr)(pc:Nat)(aC:p.length<=pc)(ap:pc<=maxLen)(B:Nat)(w:World)(O:gP (n+1) B w a p)(E:B<=w.heap.size)(an:jY (n+1) p=true->(aw (n+6) (bW n p)).length<=2097152):am 34 #[ae a p.length pc] w (Ha B n p w):=by
 have T:Hid (∀f,aj w f->am 58 #[ae a p.length pc] f λk m=>k=.returned (.bool (jY (n+1) p))/\aj f m):=
  λf x=>pe n p p.length rfl a pc B f (O.below (x.mono E)) (by unfold maxLen at ap;omega) (ay E x.size)
 have J:Hid (jY (n+1) p=true->∀f,aj w f->am 59 #[ae a p.length pc] f (io B (n+6) (bW n p) f)):=
  λx f D=>td n p a pc B f (O.below (D.mono E)) (wK x).1 (wK x).2 (ay E D.size)
 have A:Hid (nt n p=if jY (n+1) p then bu (n+6) (bW n p)else 5):=rfl;have U:=ao an;have W:Hid (JL n p=if nt n p=0 then bW n p else zT (n+5)):=rfl;clear O an aC ap;generalize p.length=len at*;generalize jY (n+1) p=aI at*;go_enter Tryz.func34,Tryz.ntmps34;go_wp2_with fail;refine(T.out _ aM).mono ?_;rintro k f ⟨rfl,M⟩;have h:=ao (qt w _ _ _ _ _ M);have r:Hid (aj w f):=aM.trans (M.mono (by simp));have aE:w.heap.size<f.heap.size:=(aD.1 h.out).1;clear M T;cases aI
 ·have s:f.cell? ⟨w.heap.size,0,none⟩=some (ab 0):=ar h.out 0;have d1:f.cell? ⟨w.heap.size,1,none⟩=some (ab 0):=ar h.out 1;have t:f.cell? ⟨w.heap.size,2,none⟩=some (af ⟨#[]⟩):=ar h.out 2;have u:f.cell? ⟨w.heap.size,3,none⟩=some (ae none 0 0):=ar h.out 3;have ah:=λz=>cP h.out z;clear J h;go_wp2_with fail;exact av (v:=.tuple #[.agg #[ab 0,ab 0,af .empty,ae none 0 0],ab 5]) (by simp[results,Tryz.results34,go_sem,s,d1,t,u];rfl) rfl (EF (du r.out (ak _)) (by rw[A.out];rfl) (by omega))
 ·have V:=ao (J.out rfl f r.out);go_wp2_with fail;refine V.out.mono ?_;rintro k g ⟨d,rfl,j⟩;have P:Hid (aj w g):=r.out.trans (j.out.1.mono r.out.size);have ad:dj (n+6) d=.agg #[ab d.1.1,ab d.1.2.1,af d.1.2.2,ae d.2.1.1 d.2.2.length d.2.1.2]:=rfl;have R:Hid (∀e,aj g e->am 51 #[.agg #[ab d.1.1,ab d.1.2.1,af d.1.2.2,ae d.2.1.1 d.2.2.length d.2.1.2]] e λk m=>k=.returned (ab (nt n p))/\aj e m):=λe y=>by
   have:=dD (n+6) d g.heap.size e (j.out.2.1.below y) y.size (by rw[j8 _ _ _ _ j.out.2.2.2];exact U.out (by simp));rw[bM j.out.2.2.2]at this;rw[A.out];exact this
  have I:Hid (nt n p=0->∀e,aj g e->am 54 #[.agg #[ab d.1.1,ab d.1.2.1,af d.1.2.2,ae d.2.1.1 d.2.2.length d.2.1.2]] e λk m=>∃c:Tm (n+6),k=.returned (dj (n+6) c)/\Hid (aj e m/\In m.heap.size m (n+6) c/\bZ (λaH=>e.heap.size<=aH) (n+6) c/\ax (n+6) c (n+6) d=true)):=λaA e y=>
   gW (n+6) d g.heap.size e (j.out.2.1.below y) y.size (aL.2 (by have D:bu (n+6) (bW n p)=0:=(by simpa [A.out]using aA);rw[jf _ _ _ _ j.out.2.2.2];exact(bw.1 D).1))
  have az:=ao j.out.2.2.2;have K:=ao ((j.out.1.block _ aE).trans h.out);have aF:w.heap.size<g.heap.size:=(aD.1 K.out).1;rw[ad];clear J V h r j ad U;generalize al:nt n p=F at*;have S:=ao al;clear al A;go_wp2_with fail;refine(R.out _ aM).mono ?_;rintro k e ⟨rfl,N⟩;have H:Hid (aj g e):=aM.trans (N.mono (by simp));have G:Hid (aj w e):=P.out.trans (H.out.mono P.out.size);have C:=ao (qt g _ _ _ _ _ N);have i:=ao ((H.out.block _ aF).trans K.out);have aG:w.heap.size<e.heap.size:=(aD.1 i.out).1;have X:e.cell? ⟨g.heap.size,0,none⟩=some (ab d.1.1):=ar C.out 0;have Y:e.cell? ⟨g.heap.size,1,none⟩=some (ab d.1.2.1):=ar C.out 1;have Z:e.cell? ⟨g.heap.size,2,none⟩=some (af d.1.2.2):=ar C.out 2;have aa:e.cell? ⟨g.heap.size,3,none⟩=some (ae d.2.1.1 d.2.2.length d.2.1.2):=ar C.out 3;clear N R K;by_cases L:F=0
  ·subst L;have aq:=ao (I.out rfl e H.out);clear I;go_wp2_with fail;refine aq.out.mono ?_;rintro k q ⟨c,rfl,l⟩;have o:=ao ((l.out.1.block _ aG).trans i.out);have Q:Hid (aj w q):=G.out.trans (l.out.1.mono G.out.size);have s:q.cell? ⟨w.heap.size,0,none⟩=some (ab 0):=ar o.out 0;have d1:q.cell? ⟨w.heap.size,1,none⟩=some (ab 0):=ar o.out 1;have t:q.cell? ⟨w.heap.size,2,none⟩=some (af ⟨#[]⟩):=ar o.out 2;have u:q.cell? ⟨w.heap.size,3,none⟩=some (ae none 0 0):=ar o.out 3;have ah:=λz=>cP o.out z;have ag:dj (n+6) c=.agg #[ab c.1.1,ab c.1.2.1,af c.1.2.2,ae c.2.1.1 c.2.2.length c.2.1.2]:=rfl;rw[ag];have au:Hid (Ha B n p w (.returned (.tuple #[.agg #[ab c.1.1,ab c.1.2.1,af c.1.2.2,ae c.2.1.1 c.2.2.length c.2.1.2],ab 0])) (cJ q w.heap.size 0 (ab c.1.1) (ab c.1.2.1) (af c.1.2.2) (ae c.2.1.1 c.2.2.length c.2.1.2))):=by
    refine⟨c,by rw[S.out];rfl,du Q.out (ak _),?_,l.out.2.2.1.mono λb aB=>ai (by omega),?_⟩
    ·rw[bm];exact In.off (λb aB=>aV (by omega) _ _ _ _) l.out.2.2.1 l.out.2.1
    ·rw[show JL n p=bW n p from by simpa using W.out];exact bQ _ _ _ _ _ _ l.out.2.2.2 az.out
   clear o i l Q X Y Z aa ag W;go_wp2_with fail;exact av (v:=.tuple #[.agg #[ab c.1.1,ab c.1.2.1,af c.1.2.2,ae c.2.1.1 c.2.2.length c.2.1.2],ab 0]) (by simp[results,Tryz.results34,go_sem,s,d1,t,u]) rfl au.out
  ·have s:e.cell? ⟨w.heap.size,0,none⟩=some (ab 0):=ar i.out 0;have d1:e.cell? ⟨w.heap.size,1,none⟩=some (ab 0):=ar i.out 1;have t:e.cell? ⟨w.heap.size,2,none⟩=some (af ⟨#[]⟩):=ar i.out 2;have u:e.cell? ⟨w.heap.size,3,none⟩=some (ae none 0 0):=ar i.out 3;have ah:=λz=>cP i.out z;have aJ:(F !=0)=true:=by simpa using L
   clear i I X Y Z aa;go_wp2_with fail;exact av (v:=.tuple #[.agg #[ab 0,ab 0,af .empty,ae none 0 0],ab F]) (by simp[results,Tryz.results34,go_sem,s,d1,t,u];rfl) rfl (EF (du G.out (ak _)) S.out.symm L)
theorem dS.ownAt{N B base k:Nat}{xs:List (Tm N)}{v:Value}{w0 wr W:World}(a:dS N B base xs v w0 wr)(c:xs.length=k)(b:aj wr W):W.ownsRow base 30 4 v k (xs.flatMap (hU N)):=by
 subst c;exact dJ a.2.1 b
theorem dS.appAt{N B base k:Nat}{xs:List (Tm N)}{v:Value}{w0 wr W w4:World}{g c:Nat}(d:dS N B base xs v w0 wr)(n:xs.length=k)(f:B<=base)(l:base<=wr.heap.size)(e:aj wr W)(a:Tm N)(i:In W.heap.size W N a)(h:bZ (λb=>b<B\/wr.heap.size<=b) N a)(o:w4.ownsRow base 30 4 (ae (some ⟨g,0,none⟩) (k+1) c) (k+1) (xs.flatMap (hU N)++hU N a))(m:W.grownBy w4 v.ownBlock)(j:v.ownBlock=some g\/g=W.heap.size):dS N B base (xs++ [a]) (ae (some ⟨g,0,none⟩) (k+1) c) w0 w4:=by
 subst n;exact eR.step (dQ N) d f l e a i h o m j
theorem qG(a:World)(o:Obj){g:Nat}(b:g=a.heap.size):(a.alloc o).drew.heap[g]?=some o:=by
 subst b;exact aB a o
theorem wC(a:World)(o:Obj){g:Nat}(b:g=a.heap.size):(a.alloc o).heap[g]?=some o:=by
 subst b;exact aB a o
def PL(b:Nat)(name:ByteArray)(a:Wd)(mv:Value):cq:=⟨b,1,[af name],[ab a.1,ab a.2,mv],107⟩
def ju(Mh:Nat->Prop)(ma:Option Addr)(vs:List Wd)(a:Nat)(w:World):Prop:=
 (ma=none/\vs=[]/\a=0)\/∃c d b,ma=some ⟨c,d,none⟩/\¬Mh c/\w.heap[c]?=some (.cells b 105 (0,0))/\vs.length<=a/\a<=maxLen/\d+a*2<=b.size/\(b.toList.drop d).take (vs.length*2)=aW vs
def jI(N:Nat)(ws:List Wd)(nm:List ByteArray)(room:Int)(b:List Wd)(a:List (Tm N)):Prop:=
 gt ws nm N b a/\(b.flatMap (oy ws N)).Nodup/\(∀c∈a,bu N c=0/\aJ N c=true)/\(a.map (sz N)).sum<=(ws.length:Int)/\(ws.length:Int)<=room/\0<=room/\room<=1000/\nm.Nodup
structure cC (base pb:Nat) (name:ByteArray) (room:Int) (N:Nat) (s:Tm N) (ms:List (Tm N)) (xs:List (Wd×Tm N)) (nk:Nat) (M:Nat->Prop) (w:World) (ws:List Wd) (nm:List ByteArray) (sv:Wd) (vs:List Wd) (ma:Option Addr) (mc:Nat) (Mh:Nat->Prop):Prop where
 heap:dA base (PL pb name sv (ae ma vs.length mc)) room ws nm Mh w
 mail:ju Mh ma vs mc w
 has:jI N ws nm room (sv::vs++xs.map (·.1)) (s::ms++xs.map (·.2))
 len:vs.length=ms.length
 names:nm.length<=nk
 inM:∀b,Mh b->M b
 mailM:∀a,ma=some a->M a.block
theorem dA.box{base:Nat}{b:cq}{room:Int}{ws:List Wd}{nm:List ByteArray}{M:Nat->Prop}{w:World}(e:dA base b room ws nm M w):∃tv lv mv,HB b room tv lv mv w/\∃h i,tv=ae h ws.length i:=by
 obtain⟨tv,lv,mv,f,g,_⟩:=e;refine⟨tv,lv,mv,f,?_⟩;rcases g.2 with⟨a,d⟩|⟨k,c,j,a,_⟩
 ·exact⟨none,0,by rw[a,d]⟩
 ·exact⟨_,c,a⟩
theorem PL.cells{a:Nat}{name:ByteArray}{b:Wd}{mv:Value}{room:Int}{tv lv mp:Value}{w:World}(d:HB (PL a name b mv) room tv lv mp w):w.cell? ⟨a,0,none⟩=some (af name)/\w.cell? ⟨a,5,none⟩=some (ab b.1)/\w.cell? ⟨a,5+1,none⟩=some (ab b.2)/\w.cell? ⟨a,7,none⟩=some mv/\(∀j,w.frozen? ⟨a,j,none⟩=false)/\a<w.heap.size:=by
 have c:w.heap[a]?=some (.cells #[af name,ab room,tv,lv,mp,ab b.1,ab b.2,mv] 107):=d.2;refine⟨?_,?_,?_,?_,λj=>?_,(aD.1 c).1⟩
 all_goals simp[World.cell?,World.frozen?,c]
end Go.Proofs.YtckamaoibonjcaaGreat
