/- Proved here: plain facts and contracts. No condition but what each names. -/
import Derived.Test.YthjclakhibnamaaGreatDoorD06
namespace Go.Proofs.YthjclakhibnamaaGreatDoor
open Go.RowKit Go.Proofs.Tryz
set_option maxHeartbeats 4000000
set_option maxRecDepth 100000
def OC(n:Nat)(w:ah)(b o:Nat)(x:Ac (n+1)):Prop:=
 w.cell? ⟨b,o,none⟩=some (ae x.1)/\
 (w.cell? ⟨b,o+1,none⟩=some (ae x.2.1.1.1.1)/\w.cell? ⟨b,o+2,none⟩=some (ae x.2.1.1.1.2.1)/\w.cell? ⟨b,o+3,none⟩=some (ag x.2.1.1.1.2.2)/\w.cell? ⟨b,o+4,none⟩=some (af x.2.1.1.2.1.1 x.2.1.1.2.2.length x.2.1.1.2.1.2))/\
 (w.cell? ⟨b,o+5,none⟩=some (ae x.2.1.2.1.1)/\w.cell? ⟨b,o+6,none⟩=some (ae x.2.1.2.1.2.1)/\w.cell? ⟨b,o+7,none⟩=some (ag x.2.1.2.1.2.2)/\w.cell? ⟨b,o+8,none⟩=some (af x.2.1.2.2.1.1 x.2.1.2.2.2.length x.2.1.2.2.1.2))/\
 w.cell? ⟨b,o+9,none⟩=some (ag x.2.2.1)/\w.cell? ⟨b,o+10,none⟩=some (ae x.2.2.2)
def OG(n:Nat)(w:ah)(b o:Nat)(x:Cl (n+1)):Prop:=
 (w.cell? ⟨b,o,none⟩=some (ae x.1.1.1.1)/\w.cell? ⟨b,o+1,none⟩=some (ae x.1.1.1.2.1)/\w.cell? ⟨b,o+2,none⟩=some (ag x.1.1.1.2.2)/\w.cell? ⟨b,o+3,none⟩=some (af x.1.1.2.1.1 x.1.1.2.2.length x.1.1.2.1.2))/\
 (w.cell? ⟨b,o+4,none⟩=some (ae x.1.2.1.1.1)/\w.cell? ⟨b,o+5,none⟩=some (ae x.1.2.1.1.2.1)/\w.cell? ⟨b,o+6,none⟩=some (ag x.1.2.1.1.2.2)/\w.cell? ⟨b,o+7,none⟩=some (af x.1.2.1.2.1.1 x.1.2.1.2.2.length x.1.2.1.2.1.2))/\
 w.cell? ⟨b,o+8,none⟩=some (af x.2.1.1 x.2.2.length x.2.1.2)/\
 (w.cell? ⟨b,o+9,none⟩=some (ae x.1.2.2.1.1)/\w.cell? ⟨b,o+10,none⟩=some (ae x.1.2.2.1.2.1)/\w.cell? ⟨b,o+11,none⟩=some (ag x.1.2.2.1.2.2)/\w.cell? ⟨b,o+12,none⟩=some (af x.1.2.2.2.1.1 x.1.2.2.2.2.length x.1.2.2.2.1.2))
variable{K:Act->bF}{cs:Array az}{Q:Exit->Act->bF}{room:Int}{p q:List An}{e ps vs ws:List Wd}{d B L M N b base c g k m n r xc:Nat}{f h i o:Obj}{j:Type}{t:TypeId}{Mh:aX}{l W w w' w0 w1 w4 wr:ah}{a ma xa:ay}{u v v0 v1 v2 v3:az}{nm:bm}{xs:dI}
theorem Lay.ac{e:Ac (n+1)->Prop}{p:List (Ac (n+1))}(d:Lay B w 11 (gZ (n+1)) e a p)(k:Nat)(x:Ac (n+1))(f:p[k]?=some x):∃b o,a=some ⟨b,o,none⟩/\b<B/\OC n w b (o+k*11) x/\e x:=by
 rcases d with d|⟨b,o,g,i,d⟩
 ·subst d;simp at f
 ·obtain⟨c,h⟩:=d k x f;exact⟨b,o,g,i,⟨c 0 _ rfl,⟨c 1 _ rfl,c 2 _ rfl,c 3 _ rfl,c 4 _ rfl⟩,⟨c 5 _ rfl,c 6 _ rfl,c 7 _ rfl,c 8 _ rfl⟩,c 9 _ rfl,c 10 _ rfl⟩,h⟩
theorem Lay.cl{e:Cl (n+1)->Prop}{p:List (Cl (n+1))}(d:Lay B w 13 (fH (n+1)) e a p)(k:Nat)(x:Cl (n+1))(f:p[k]?=some x):∃b o,a=some ⟨b,o,none⟩/\b<B/\OG n w b (o+k*13) x/\e x:=by
 rcases d with d|⟨b,o,g,i,d⟩
 ·subst d;simp at f
 ·obtain⟨c,h⟩:=d k x f;exact⟨b,o,g,i,⟨⟨c 0 _ rfl,c 1 _ rfl,c 2 _ rfl,c 3 _ rfl⟩,⟨c 4 _ rfl,c 5 _ rfl,c 6 _ rfl,c 7 _ rfl⟩,c 8 _ rfl,c 9 _ rfl,c 10 _ rfl,c 11 _ rfl,c 12 _ rfl⟩,h⟩
theorem Lay.bh{d:Bh (n+1)->Prop}{p:List (Bh (n+1))}(c:Lay B w 2 (rK (n+1)) d a p)(k:Nat)(x:Bh (n+1))(f:p[k]?=some x):∃b o,a=some ⟨b,o,none⟩/\b<B/\(ai w b (o+k*2) (ag x.1)/\ai w b (o+k*2+1) (af x.2.1.1 x.2.2.length x.2.1.2))/\d x:=by
 rcases c with c|⟨b,o,g,i,c⟩
 ·subst c;simp at f
 ·obtain⟨e,h⟩:=c k x f;exact⟨b,o,g,i,⟨e 0 _ rfl,e 1 _ rfl⟩,h⟩
theorem lk{b:Nat->ah->j->Prop}{c:(Nat->Prop)->j->Prop}(e:kI b c){f:j->List az}(g:Below B w w'){l:List j}(d:Lay B w k f (b B w) a l):Lay B w' k f (b B w') a l:=(dc e k f a).below g d
theorem Bv(n:Nat)(p:List (Ac (n+1)))(len:Nat)(r:Hid (p.length=len))(a:ay)(pc B:Nat)(w:ah)(u:Hid (Lay B w 11 (gZ (n+1)) (jL (n+1) B w) a p))(C:len<=9223372036854775807)(s:B<=w.heap.size):au 147 #[af a len pc] w λe w'=>e=aw (.bool (decide ((len:Int)<=8) && p.all (oO (n+1))))/\ap w w':=by
 by_cases x:(8:Int)<len
 ·have f:decide ((len:Int)<=8)=false:=by simp;omega
  rw[f];go_enter func147,ntmps147;go_wp2_with fail
  go_ret
  exact⟨rfl,aH _ _⟩
 have f:decide ((len:Int)<=8)=true:=by simp;omega
 rw[f,eU];clear f;go_enter func147,ntmps147;go_wp2_with fail;go_loopw [10] (λj wr=>∃k:Nat,k<=len/\j=ae k/\ap w wr/\Hid ((p.drop k).all (oO (n+1))=p.all (oO (n+1)))) (λj _=>len-(intOf j).toNat)
 case atStart=>exact⟨0,by omega,rfl,aH _ _,rfl⟩
 case round=>
  obtain⟨k,y,rfl,d,h⟩:=hrel;by_cases t:k<len
  ·obtain⟨b,i⟩:∃b,p[k]?=some b:=⟨p[k]'(by rw[r.out];exact t),aV _⟩;have l:=av (rV (oO (n+1)) p k b i);obtain⟨E,po,rfl,D,⟨F,⟨G,I,J,K⟩,⟨L,M,N,O⟩,P,H⟩,q⟩:=(lk (fW (n+1)) (d.mono s) u).ac k b i;have g:=λc=>av (Ir n b c q.2.2.2.1);replace g:Hid (∀c,au 173 #[.agg #[ae b.1,ae b.2.1.1.1.1,ae b.2.1.1.1.2.1,ag b.2.1.1.1.2.2,af b.2.1.1.2.1.1 b.2.1.1.2.2.length b.2.1.1.2.1.2,ae b.2.1.2.1.1,ae b.2.1.2.1.2.1,ag b.2.1.2.1.2.2,af b.2.1.2.2.1.1 b.2.1.2.2.2.length b.2.1.2.2.1.2,ag b.2.2.1,ae b.2.2.2]] c λe w'=>e=aw (.bool (oO (n+1) b))/\ap c w'):=λc=>(g c);clear q i;generalize oO (n+1) b=v at*;have z:(0:Int)<=(k:Int):=by omega
   have A:(k:Int)<(len:Int):=by omega
   go_wp2_with fail;refine(g _).mono ?_;rintro e c ⟨rfl,m⟩;have o:ap w c:=(d.trans ((aW _ _).mono d.size)).trans (m.mono (by have:=d.size;simp;omega));clear m;cases v with
   | true=>
    go_wp2_with fail;go_roundw
    case rel=>exact⟨k+1,by omega,by go_num,o,by rw[<-h.out,l.out];rfl⟩
    case measure=>simp[intOf];omega
   | false=>
    go_wp2_with fail
    go_ret
    exact⟨b8 (by rw[<-h.out,l.out];rfl),o⟩
  ·go_wp2_with fail
   go_ret
   refine⟨b8 ?_,d⟩;rw[<-h.out,ko (by rw[r.out];omega)];rfl
theorem vw(n:Nat)(p:List (Cl (n+1)))(len:Nat)(s:Hid (p.length=len))(a:ay)(pc B:Nat)(w:ah)(y:Hid (Lay B w 13 (fH (n+1)) (iR (n+1) B w) a p))(G:len<=9223372036854775807)(m:B<=w.heap.size):au 120 #[af a len pc] w λe w'=>e=aw (.bool (decide (1<=(len:Int)) && decide ((len:Int)<=6) && p.all (vD (n+1))))/\ap w w':=by
 by_cases A:(len:Int)<1
 ·have v:decide (1<=(len:Int))=false:=by simp;omega
  rw[v];go_enter func120,ntmps120;go_wp2_with fail
  go_ret
  exact⟨rfl,aH _ _⟩
 by_cases C:(6:Int)<len
 ·have f:decide ((len:Int)<=6)=false:=by simp;omega
  rw[f];go_enter func120,ntmps120;go_wp2_with fail
  go_ret
  exact⟨b8 (by simp),aH _ _⟩
 have f:(decide (1<=(len:Int)) && decide ((len:Int)<=6))=true:=by simp;omega
 rw[f,eU];clear f;go_enter func120,ntmps120;go_wp2_with fail;go_loopw [15] (λj wr=>∃k:Nat,k<=len/\j=ae k/\ap w wr/\Hid ((p.drop k).all (vD (n+1))=p.all (vD (n+1)))) (λj _=>len-(intOf j).toNat)
 case atStart=>exact⟨0,by omega,rfl,aH _ _,rfl⟩
 case round=>
  obtain⟨k,D,rfl,d,g⟩:=hrel;by_cases x:k<len
  ·obtain⟨b,i⟩:∃b,p[k]?=some b:=⟨p[k]'(by rw[s.out];exact x),aV _⟩;have l:=av (rV (vD (n+1)) p k b i);obtain⟨I,po,rfl,H,⟨⟨J,K,O,P⟩,⟨Q,R,S,T⟩,U,V,L,M,N⟩,h⟩:=(lk (eN (n+1)) (d.mono m) y).cl k b i;have o:B<=wr.heap.size:=aG m d.size
   have u:Hid (∀c,ap wr c->au 147 #[af b.2.1.1 b.2.2.length b.2.1.2] c λe w'=>e=aw (.bool (vD (n+1) b))/\ap c w'):=
    λc t=>Bv n b.2.2 b.2.2.length rfl b.2.1.1 b.2.1.2 B c (lk (fW (n+1)) (t.mono o) h.2.2) (by have:=h.2.1;unfold maxLen at this;omega) (aG o t.size)
   clear h i;generalize vD (n+1) b=z at*;have E:(0:Int)<=(k:Int):=by omega
   have F:(k:Int)<(len:Int):=by omega
   go_wp2_with fail;refine(u _ (aW _ _)).mono ?_;rintro e c ⟨rfl,q⟩;have r:ap w c:=(d.trans ((aW _ _).mono d.size)).trans (q.mono (by have:=d.size;simp;omega));clear q;cases z with
   | true=>
    go_wp2_with fail;go_roundw
    case rel=>exact⟨k+1,by omega,by go_num,r,by rw[<-g.out,l.out];rfl⟩
    case measure=>simp[intOf];omega
   | false=>
    go_wp2_with fail
    go_ret
    exact⟨b8 (by rw[<-g.out,l.out];rfl),r⟩
  ·go_wp2_with fail
   go_ret
   refine⟨b8 ?_,d⟩;rw[<-g.out,ko (by rw[s.out];omega)];rfl
theorem O0(n:Nat)(x:Bh n):xY n x=(ek x.1 && (decide (1<=(x.2.2.length:Int)) && decide ((x.2.2.length:Int)<=6) && x.2.2.all (vD n))):=by
 simp only[xY,Bool.and_assoc]
theorem qz(n:Nat)(p:List (Bh (n+1)))(len:Nat)(l:Hid (p.length=len))(a:ay)(pc B:Nat)(w:ah)(D:Hid (iX (n+1) B w a p))(M:len<=9223372036854775807)(s:B<=w.heap.size):au 81 #[af a len pc] w λe w'=>e=aw (.bool (lm (n+1) p))/\ap w w':=by
 have r:Hid (lm (n+1) p=(decide (1<=(len:Int)) && decide ((len:Int)<=7) && p.all (xY (n+1)))):=by
  show lm (n+1) p=_;rw[<-l.out];rfl
 rw[r.out];by_cases H:(len:Int)<1
 ·have A:decide (1<=(len:Int))=false:=by simp;omega
  rw[A];go_enter func81,ntmps81;go_wp2_with fail
  go_ret
  exact⟨rfl,aH _ _⟩
 by_cases I:(7:Int)<len
 ·have f:decide ((len:Int)<=7)=false:=by simp;omega
  rw[f];go_enter func81,ntmps81;go_wp2_with fail
  go_ret
  exact⟨b8 (by simp),aH _ _⟩
 have f:(decide (1<=(len:Int)) && decide ((len:Int)<=7))=true:=by simp;omega
 rw[f,eU];clear f r;go_enter func81,ntmps81;go_wp2_with fail;go_loopw [15] (λo wr=>∃k:Nat,k<=len/\o=ae k/\ap w wr/\Hid ((p.drop k).all (xY (n+1))=p.all (xY (n+1)))) (λo _=>len-(intOf o).toNat)
 case atStart=>exact⟨0,by omega,rfl,aH _ _,rfl⟩
 case round=>
  obtain⟨k,J,rfl,d,g⟩:=hrel;by_cases C:k<len
  ·obtain⟨b,m⟩:∃b,p[k]?=some b:=⟨p[k]'(by rw[l.out];exact C),aV _⟩;have j:=av (rV (xY (n+1)) p k b m);obtain⟨O,po,rfl,N,⟨Q,R⟩,h⟩:=(iX.below (d.mono s) D).bh k b m;have t:B<=wr.heap.size:=aG s d.size;have E:b.1.size<=9223372036854775807:=by have:=h.1;unfold maxLen at this;omega
   have z:Hid (∀c,ap wr c->au 120 #[af b.2.1.1 b.2.2.length b.2.1.2] c λe w'=>e=aw (.bool (decide (1<=(b.2.2.length:Int)) && decide ((b.2.2.length:Int)<=6) && b.2.2.all (vD (n+1))))/\ap c w'):=
    λc y=>vw n b.2.2 b.2.2.length rfl b.2.1.1 b.2.1.2 B c (lk (eN (n+1)) (y.mono t) h.2.2) (by have:=h.2.1;unfold maxLen at this;omega) (aG t y.size)
   have i:=av (O0 (n+1) b);clear h m;generalize (decide (1<=(b.2.2.length:Int)) && decide ((b.2.2.length:Int)<=6) && b.2.2.all (vD (n+1)))=F at*;have K:(0:Int)<=(k:Int):=by omega
   have L:(k:Int)<(len:Int):=by omega
   have q:=λc=>av (jf b.1 c E);generalize ek b.1=G at*;generalize xY (n+1) b=P at*;have u:ap w (wr.alloc (.cells #[ag b.1,af b.2.1.1 b.2.2.length b.2.1.2] 176)):=d.trans ((aW _ _).mono d.size);cases G with
   | false=>
    go_wp2_with (go_at_call 115;refine(q _).mono ?_;rintro e w' ⟨rfl,rfl⟩)
    go_ret
    exact⟨b8 (by rw[<-g.out,j.out,i.out];rfl),u⟩
   | true=>
    go_wp2_with (first|(go_at_call 115;refine(q _).mono ?_;rintro e w' ⟨rfl,rfl⟩)|(go_at_call 120;refine(z _ (aW _ _)).mono ?_;rintro e c ⟨rfl,v⟩;have x:ap w c:=u.trans (v.mono (by have:=d.size;simp;omega));clear v;cases F))
    ·go_ret
     exact⟨b8 (by rw[<-g.out,j.out,i.out];rfl),x⟩
    ·go_roundw
     case rel=>exact⟨k+1,by omega,by go_num,x,by rw[<-g.out,j.out,i.out];rfl⟩
     case measure=>simp[intOf];omega
  ·go_wp2_with fail
   go_ret
   refine⟨b8 ?_,d⟩;rw[<-g.out,ko (by rw[l.out];omega)];rfl
theorem iZ(s:aq)(w:ah):au 148 #[ag s] w λe w'=>e=aw (aB 2 0 s none 0 0)/\w'=w.alloc (.cells #[ae 2,ae 0,ag s,af none 0 0] 54):=by
 go_enter func148,ntmps148;go_wp2_with fail;exact aE (v:=aB 2 0 s none 0 0) (by simp[results,results148,go_sem]) rfl ⟨rfl,rfl⟩
theorem fY(a:ay)(l c:Nat)(w:ah):au 150 #[af a l c] w λe w'=>e=aw (.agg #[ae 4,ae 0,ag ⟨#[]⟩,af a l c])/\w'=w.alloc (.cells #[ae 4,ae 0,ag ⟨#[]⟩,af a l c] 54):=by
 go_enter func150,ntmps150;go_wp2_with fail;exact aE (v:=.agg #[ae 4,ae 0,ag ⟨#[]⟩,af a l c]) (by simp[results,results150,go_sem]) rfl ⟨rfl,rfl⟩
def iV(B N:Nat)(c:Tm N)(w:ah)(e:Ending)(w':ah):Prop:=
 ∃a:Tm N,e=aw (dG N a)/\Hid (ap w w'/\In w'.heap.size w' N a/\cG (λb=>b<B\/w.heap.size<=b) N a/\aK N a N c=true)
abbrev eI(n B base:Nat)(xs:List (Tm n))(v:az)(w0 wr:ah):Prop:=fE (λB w x=>In B w n x) (λP x=>cG P n x) (kZ n) 4 54 B base xs v w0 wr
theorem pY(n:Nat)(x:Tm n):(kZ n x).length=4:=rfl
theorem iB(s:aq)(N:Nat)(a:s.size<=maxLen)(B:Nat)(w:ah):In B w (N+1) (bQ s N):=⟨⟨by simp[bQ,dp],by simp[bQ,dp],a,by simp[bQ],by simp[bQ]⟩,ak rfl⟩
theorem Ld(k a:Int)(N:Nat)(b:dp k)(c:dp a)(B:Nat)(w:ah):In B w (N+1) (cB k a N):=⟨⟨b,c,aN _,by simp[cB],by simp[cB]⟩,ak rfl⟩
theorem pE(s:aq)(N:Nat)(P:aX):cG P (N+1) (bQ s N):=ak rfl
theorem Gq{o:Nat}{x:Tm n}(d:In B w0 n x)(a:∀(j:Nat)(c:az),(kZ n x)[j]?=some c->w.cell? ⟨b,o+j,none⟩=some c):eh w b o n x:=by
 cases n with
 | zero=>exact d.elim
 | succ n=>exact⟨a 0 _ rfl,a 1 _ rfl,a 2 _ rfl,a 3 _ rfl⟩
theorem eI.tells{xs ys:List (Tm N)}(p:eI N B base xs v w0 wr)(x:w.heap.size<=base)(s:aO (λa b=>aK N a N b) xs ys=true)(u:∀b,b<B\/base<=b->b<wr.heap.size->w'.heap[b]?=wr.heap[b]?)(t:wr.heap.size<=w'.heap.size)(g:ap w w'):∃a c,v=af a xs.length c/\iV B (N+1) (dT N ys) w (aw (.agg #[ae 4,ae 0,ag ⟨#[]⟩,af a xs.length c])) w':=by
 have j:=eE N;obtain⟨a,c,f,m,n,e⟩:=p.lay j (pY N);refine⟨a,c,f,((4,0,.empty),(a,c),xs),rfl,g,⟨⟨by simp[dp],by simp[dp],aN _,m.1,m.2⟩,?_⟩,?_,dD rfl s⟩
 ·have q:=(dc j 4 (kZ N) a).2.1 _ _ _ _ e n;have r:=(dc j 4 (kZ N) a).2.2.1 _ _ wr w' _ (λb l=>u b l.1 l.2) q n;have d:=(dc j 4 (kZ N) a).2.2.2.1 _ _ _ _ t r;rcases d with d|⟨b,o,f,g,d⟩
  ·exact ak d
  ·exact am ⟨b,o,f,g,λk i h=>⟨Gq (d k i h).2 (d k i h).1,(d k i h).2⟩⟩
 ·rcases e with e|⟨b,o,f,g,e⟩
  ·exact ak e
  ·exact am ⟨b,o,f,by omega,λk i h=>(e i (aU h)).mono λb g=>by omega⟩
theorem pW(xs:List (Tm N))(a:ap w w1)(r:g=w1.heap.size)(p:L=xs.length)(e:Below (w1.alloc (.cells cs 54)).heap.size (w1.alloc (.cells cs 54)) w')(q:cs.toList=xs.flatMap (kZ N))(u:xs.length<=8)(i:B<=w.heap.size)(f:∀y∈xs,In B w N y):iV B (N+1) (dT N xs) w (aw (.agg #[ae 4,ae 0,ag ⟨#[]⟩,af (some ⟨g,0,none⟩) L L])) w':=by
 have o:=fE.lit (T:=54) (k:=4) (B:=B) (base:=w1.heap.size) (eE N) xs (w0:=w1) q (pY N) (by unfold maxLen;omega) (aA _) (aH _ _) (λy d=>⟨((f y d).below (a.mono i)).mono (aG i a.size),(pN (f y d)).mono λb h=>ak h⟩);have j:ap w (w1.alloc (.cells cs 54)):=a.trans ((aW _ _).mono a.size);obtain⟨s,c,l,k⟩:=eI.tells o a.size (jr _ _ λy d=>mA (f y d)) (λb _ h=>e.block b h) e.size (j.trans (e.mono j.size));injection l with m t n;subst m n p r;exact k
theorem iq:ap w (((w.alloc f).alloc h).alloc i)/\w.heap.size+1+1+1=(((w.alloc f).alloc h).alloc i).heap.size:=
 ⟨((aW _ _).alloc (by simp) _).alloc (by simp;omega) _,by simp⟩
theorem uh{a:Obj}:ap w ((((w.alloc f).alloc h).alloc i).alloc a)/\w.heap.size+1+1+1+1=((((w.alloc f).alloc h).alloc i).alloc a).heap.size:=
 ⟨(((aW _ _).alloc (by simp) _).alloc (by simp;omega) _).alloc (by simp;omega) _,by simp⟩
theorem wQ:ap w (w.alloc o).drew:=(aW _ _).drew
theorem bf:ap w (w.alloc o):=aW _ _
theorem oA(s:aq)(a:s.size<=8):s.size<=maxLen:=by unfold maxLen;omega
theorem A0(n:Nat)(t x:Tm (n+1))(s:aq)(v:Int)(B:Nat)(w:ah)(b:In B w (n+1) t)(c:In B w (n+1) x)(h:B<=w.heap.size):au 201 #[.agg #[ae 1,ae t.1.1,ae t.1.2.1,ag t.1.2.2,af t.2.1.1 t.2.2.length t.2.1.2,ae x.1.1,ae x.1.2.1,ag x.1.2.2,af x.2.1.1 x.2.2.length x.2.1.2,ag s,ae v]] w (iV B (n+2) (dT (n+1) [bQ oL n,t,x]) w):=by
 have f:Hid (∀e∈[bQ oL n,t,x],In B w (n+1) e):=λe d=>by
  simp only[cr,gj,gq]at d;rcases d with rfl|rfl|rfl
  ·exact iB _ _ (oA _ (by decide)) _ _
  ·exact b
  ·exact c
 clear b c;go_enter func201,ntmps201;go_wp2_with fail
 go_region_held3 (λa=>(a.cell? ⟨w.heap.size,1,none⟩=some (ae t.1.1)/\a.cell? ⟨w.heap.size,2,none⟩=some (ae t.1.2.1)/\a.cell? ⟨w.heap.size,3,none⟩=some (ag t.1.2.2)/\a.cell? ⟨w.heap.size,4,none⟩=some (af t.2.1.1 t.2.2.length t.2.1.2))/\
     (a.cell? ⟨w.heap.size,5,none⟩=some (ae x.1.1)/\a.cell? ⟨w.heap.size,6,none⟩=some (ae x.1.2.1)/\a.cell? ⟨w.heap.size,7,none⟩=some (ag x.1.2.2)/\a.cell? ⟨w.heap.size,8,none⟩=some (af x.2.1.1 x.2.2.length x.2.1.2))) (first|(go_keep;done)|(simp[go_sem];done))
  ((first|(go_at_call 148;refine(iZ _ _).mono ?_;rintro g i ⟨rfl,rfl⟩)|(go_at_call 150;refine(fY _ _ _ _).mono ?_;rintro g i ⟨rfl,rfl⟩)))
 go_wp2_with fail;exact aE (v:=.agg #[ae 4,ae 0,ag ⟨#[]⟩,af (some ⟨w.heap.size+1+1+1,0,none⟩) 3 3]) (by simp[results,results201,go_sem]) rfl (pW [bQ oL n,t,x] iq.1 iq.2 rfl wQ rfl (by simp) h f)
theorem AZ(n:Nat)(t x:Tm (n+1))(s:aq)(v:Int)(B:Nat)(w:ah)(b:In B w (n+1) t)(g:B<=w.heap.size):au 201 #[.agg #[ae 3,ae t.1.1,ae t.1.2.1,ag t.1.2.2,af t.2.1.1 t.2.2.length t.2.1.2,ae x.1.1,ae x.1.2.1,ag x.1.2.2,af x.2.1.1 x.2.2.length x.2.1.2,ag s,ae v]] w (iV B (n+2) (dT (n+1) [bQ oK n,t]) w):=by
 have e:Hid (∀d∈[bQ oK n,t],In B w (n+1) d):=λd c=>by
  simp only[cr,gj,gq]at c;rcases c with rfl|rfl
  ·exact iB _ _ (oA _ (by decide)) _ _
  ·exact b
 clear b;go_enter func201,ntmps201;go_wp2_with fail
 go_region_held3 (λa=>a.cell? ⟨w.heap.size,1,none⟩=some (ae t.1.1)/\a.cell? ⟨w.heap.size,2,none⟩=some (ae t.1.2.1)/\a.cell? ⟨w.heap.size,3,none⟩=some (ag t.1.2.2)/\a.cell? ⟨w.heap.size,4,none⟩=some (af t.2.1.1 t.2.2.length t.2.1.2)) (first|(go_keep;done)|(simp[go_sem];done))
  ((first|(go_at_call 148;refine(iZ _ _).mono ?_;rintro f h ⟨rfl,rfl⟩)|(go_at_call 150;refine(fY _ _ _ _).mono ?_;rintro f h ⟨rfl,rfl⟩)))
 go_wp2_with fail;exact aE (v:=.agg #[ae 4,ae 0,ag ⟨#[]⟩,af (some ⟨w.heap.size+1+1+1,0,none⟩) 2 2]) (by simp[results,results201,go_sem]) rfl (pW [bQ oK n,t] iq.1 iq.2 rfl wQ rfl (by simp) g e)
theorem A1(n:Nat)(K:Int)(g:(K==1)=false)(h:(K==2)=false)(i:(K==3)=false)(t x:Tm (n+1))(s:aq)(v:Int)(B:Nat)(w:ah)(e:B<=w.heap.size):au 201 #[.agg #[ae K,ae t.1.1,ae t.1.2.1,ag t.1.2.2,af t.2.1.1 t.2.2.length t.2.1.2,ae x.1.1,ae x.1.2.1,ag x.1.2.2,af x.2.1.1 x.2.2.length x.2.1.2,ag s,ae v]] w (iV B (n+2) (dT (n+1) [bQ oM n]) w):=by
 have c:Hid (∀b∈[bQ oM n],In B w (n+1) b):=λb a=>by
  simp only[cr,gj,gq]at a;subst a;exact iB _ _ (oA _ (by decide)) _ _
 go_enter func201,ntmps201;go_wp2_with (first|(go_at_call 148;refine(iZ _ _).mono ?_;rintro d f ⟨rfl,rfl⟩)|(go_at_call 150;refine(fY _ _ _ _).mono ?_;rintro d f ⟨rfl,rfl⟩));exact aE (v:=.agg #[ae 4,ae 0,ag ⟨#[]⟩,af (some ⟨w.heap.size+1+1+1,0,none⟩) 1 1]) (by simp[results,results201,go_sem]) rfl (pW [bQ oM n] iq.1 iq.2 rfl bf rfl (by simp) e c)
theorem xP(n:Nat)(t x:Tm (n+1))(s:aq)(v:Int)(c:dp v)(b:s.size<=maxLen)(B:Nat)(w:ah)(d:In B w (n+1) x)(i:B<=w.heap.size):au 201 #[.agg #[ae 2,ae t.1.1,ae t.1.2.1,ag t.1.2.2,af t.2.1.1 t.2.2.length t.2.1.2,ae x.1.1,ae x.1.2.1,ag x.1.2.2,af x.2.1.1 x.2.2.length x.2.1.2,ag s,ae v]] w (iV B (n+2) (dT (n+1) [bQ kD n,bQ s n,x,cB 5 v n]) w):=by
 have g:Hid (∀f∈[bQ kD n,bQ s n,x,cB 5 v n],In B w (n+1) f):=λf e=>by
  simp only[cr,gj,gq]at e;rcases e with rfl|rfl|rfl|rfl
  ·exact iB _ _ (oA _ (by decide)) _ _
  ·exact iB _ _ b _ _
  ·exact d
  ·exact Ld _ _ _ (by simp[dp]) c _ _
 clear d b c;go_enter func201,ntmps201;go_wp2_with fail
 go_region_held3 (λa=>(a.cell? ⟨w.heap.size,9,none⟩=some (ag s)/\a.cell? ⟨w.heap.size,10,none⟩=some (ae v))/\
     (a.cell? ⟨w.heap.size,5,none⟩=some (ae x.1.1)/\a.cell? ⟨w.heap.size,6,none⟩=some (ae x.1.2.1)/\a.cell? ⟨w.heap.size,7,none⟩=some (ag x.1.2.2)/\a.cell? ⟨w.heap.size,8,none⟩=some (af x.2.1.1 x.2.2.length x.2.1.2))) (first|(go_keep;done)|(simp[go_sem];done))
  ((first|(go_at_call 148;refine(iZ _ _).mono ?_;rintro h j ⟨rfl,rfl⟩)|(go_at_call 150;refine(fY _ _ _ _).mono ?_;rintro h j ⟨rfl,rfl⟩)))
 all_goals go_wp2_with fail
 all_goals exact aE (v:=.agg #[ae 4,ae 0,ag ⟨#[]⟩,af (some ⟨w.heap.size+1+1+1+1,0,none⟩) 4 4]) (by simp[results,results201,go_sem]) rfl (pW [bQ kD n,bQ s n,x,cB 5 v n] uh.1 uh.2 rfl wQ rfl (by simp) i g)
theorem Dw(n:Nat)(a:Ac (n+1))(B:Nat)(w:ah)(o:jL (n+1) B w a)(c:B<=w.heap.size):au 201 #[.agg (gZ (n+1) a).toArray] w (iV B (n+2) (cP n a) w):=by
 obtain⟨b,⟨t,f⟩,d,e⟩:=a;obtain⟨p,j,k,l,m⟩:=o;unfold cP;by_cases g:b=1
 ·subst g;exact A0 n t f d e B w j k c
 by_cases h:b=2
 ·subst h;exact xP n t f d e m l B w k c
 by_cases i:b=3
 ·subst i;exact AZ n t f d e B w j c
 ·simp only[g,h,i,if_false];exact A1 n b (by simpa using g) (by simpa using h) (by simpa using i) t f d e B w c
theorem FH(xs ys:List (Tm N))(m:base<=w1.heap.size)(p:g=w1.heap.size)(i:L=xs.length)(n:w.heap.size<=base)(s:∀b,b<B\/base<=b->b<(w1.alloc (.cells cs 54)).heap.size->w'.heap[b]?=(w1.alloc (.cells cs 54)).heap[b]?)(r:(w1.alloc (.cells cs 54)).heap.size<=w'.heap.size)(l:ap w w')(o:cs.toList=xs.flatMap (kZ N))(u:xs.length<=8)(j:∀y∈xs,In w1.heap.size w1 N y/\cG (λb=>b<B\/base<=b) N y)(q:aO (λa b=>aK N a N b) xs ys=true):iV B (N+1) (dT N ys) w (aw (.agg #[ae 4,ae 0,ag ⟨#[]⟩,af (some ⟨g,0,none⟩) L L])) w':=by
 have h:=fE.lit (T:=54) (k:=4) (B:=B) (base:=base) (eE N) xs (w0:=w1) o (pY N) (by unfold maxLen;omega) m (aH _ _) j;obtain⟨a,c,d,k⟩:=eI.tells h n q s r l;injection d with e t f;subst e f i p;exact k
theorem eI.slice{xs:List (Tm N)}(b:eI N B base xs v w0 wr):∃a c,v=af a xs.length c:=by
 rcases b.2.1.2 with⟨rfl,d⟩|⟨f,cap,e,rfl,_⟩
 ·exact⟨none,0,by rw[d]⟩
 ·exact⟨_,_,rfl⟩
theorem vh(N:Nat)(x:Tm N):∀b∈kZ N x,b.oneCell'=true:=by
 intro b a;simp[kZ,wL]at a;rcases a with rfl|rfl|rfl|rfl<;>rfl
theorem A2(w:ah)(x:Nd)(d:g=w.heap.size):∀j b,(wL x)[j]?=some b->(w.alloc (.cells #[ae x.1.1,ae x.1.2.1,ag x.1.2.2,af x.2.1 x.2.2.1 x.2.2.2] 54)).cell? ((⟨g,0,none⟩:Addr).add j)=some b:=by
 subst d;intro j b a;rw[fF];have:j<4:=(bj.1 a).1;have c:j=0\/j=1\/j=2\/j=3:=by omega
 rcases c with rfl|rfl|rfl|rfl<;>simp[wL]at a<;>subst a<;>simp[go_sem]
theorem eI.app{xs:List (Tm N)}(f:eI N B base xs v w0 wr)(q:xs.length=k)(h:B<=base)(n:base<=wr.heap.size)(e:ap wr l)(a:Tm N)(j:In l.heap.size l N a)(i:cG (λb=>b<B\/wr.heap.size<=b) N a)(r:w4.ownsRow base 54 4 (af (some ⟨g,0,none⟩) (k+1) c) (k+1) (xs.flatMap (kZ N)++kZ N a))(p:(l.alloc o).grownBy w4 v.ownBlock)(m:v.ownBlock=some g\/g=l.heap.size+1):eI N B base (xs++ [a]) (af (some ⟨g,0,none⟩) (k+1) c) w0 w4:=by
 subst q;have d:ap l (l.alloc o):=aW _ _;exact fE.step (eE N) f h n (e.trans (d.mono e.size)) a ((j.below d).mono d.size) i r p (by simpa using m)
theorem eI.own{xs:List (Tm N)}(b:eI N B base xs v w0 wr)(c:xs.length=k)(a:ap wr l)(o:Obj):(l.alloc o).ownsRow base 54 4 v k (xs.flatMap (kZ N)):=by
 subst c;exact dV b.2.1 (a.trans ((aW _ _).mono a.size))
theorem ia(w:ah)(o:Obj)(a:b<w.heap.size):(w.alloc o).heap[b]?=w.heap[b]? :=(dC w o none).block b a (by simp)
theorem aD{q:Nat}(a:w.heap[q]?=some (.cells cs t))(j:Nat):w.cell? ⟨q,j,none⟩=cs[j]? :=by simp[World.cell?,a]
theorem dt{q:Nat}(a:w.heap[q]?=some (.cells cs t))(j:Nat):w.frozen? ⟨q,j,none⟩=false:=by simp[World.frozen?,a]
theorem ld(w:ah)(a c:Obj):((w.alloc a).alloc c).heap[w.heap.size]?=some a/\((w.alloc a).alloc c).heap[w.heap.size+1]?=some c:=by
 have f:=(ia (w.alloc a) c (b:=w.heap.size) (by simp)).trans (aL w a);have d:=aL (w.alloc a) c;have e:(w.alloc a).heap.size=w.heap.size+1:=by simp
 rw[e]at d;exact⟨f,d⟩
theorem AI{o:Nat}(d:B<=r)(e:r<base)(a:ap W w):∀b,b<B\/base<=b->b<W.heap.size->(dl w r o v0 v1 v2 v3).heap[b]?=W.heap[b]? :=λb f c=>(bz (by omega) _ _ _ _).trans (a.block b c)
theorem dW{o:Nat}(a:ap w W)(d:w.heap.size<=r):ap w (dl W r o v0 v1 v2 v3):=
 ⟨a.os,a.tape,a.output,aG a.size (cT (bK _ _ _ _).symm),λb c=>(bz (by omega) _ _ _ _).trans (a.block b c)⟩
theorem eI.tup{xs:List (Tm N)}{l:ay}(q:eI N B base xs (af l k d) w0 wr):In wr.heap.size wr (N+1) ((4,0,.empty),(l,d),xs)/\cG (λb=>b<B\/base<=b) (N+1) ((4,0,.empty),(l,d),xs):=by
 obtain⟨s,c,a,m,r,f⟩:=q.lay (eE N) (pY N);injection a with n t p;subst n p;refine⟨⟨⟨by simp[dp],by simp[dp],aN _,m.1,m.2⟩,?_⟩,?_⟩
 ·rcases r with e|⟨b,o,a,j,e⟩
  ·exact ak e
  ·exact am ⟨b,o,a,j,λi h g=>⟨Gq (e i h g).2 (e i h g).1,(e i h g).2⟩⟩
 ·rcases f with f|⟨b,o,a,j,f⟩
  ·exact ak f
  ·exact am ⟨b,o,a,j,λi h g=>f h (aU g)⟩
theorem zS{s m x:Tm (n+1)}{c:Tm (n+3)}{ys:List (Tm (n+2))}(k:B<=w.heap.size)(p:In B w (n+1) s)(o:In B w (n+1) m)(q:In B w (n+1) x)(l:ap w wr)(j:In wr.heap.size wr (n+3) c/\cG (λb=>b<B\/base<=b) (n+3) c)(u:aK (n+3) c (n+3) (dT (n+2) ys)=true)(g:ap wr w1):(∀y∈[bQ Oe (n+2),bq (n+3) (n+1) s,bq (n+3) (n+1) m,c,bq (n+3) (n+1) x],In w1.heap.size w1 (n+3) y/\cG (λb=>b<B\/base<=b) (n+3) y)/\ aO (λa b=>aK (n+3) a (n+3) b) [bQ Oe (n+2),bq (n+3) (n+1) s,bq (n+3) (n+1) m,c,bq (n+3) (n+1) x] [bQ Oe (n+2),bq (n+3) (n+1) s,bq (n+3) (n+1) m,dT (n+2) ys,bq (n+3) (n+1) x]=true:=by
 have e:∀t:Tm (n+1),In B w (n+1) t->In w1.heap.size w1 (n+3) (bq (n+3) (n+1) t)/\cG (λb=>b<B\/base<=b) (n+3) (bq (n+3) (n+1) t):=λt h=>by
  have i:=pP (n+3) (n+1) (by omega) t B w h;have d:=l.trans (g.mono l.size);exact⟨(i.below (d.mono k)).mono (aG k d.size),(pN i).mono λb d=>ak d⟩
 have f:∀t:Tm (n+1),In B w (n+1) t->aK (n+3) (bq (n+3) (n+1) t) (n+3) (bq (n+3) (n+1) t)=true:=λt h=>mA (pP (n+3) (n+1) (by omega) t B w h);refine⟨λy r=>?_,by simp only[aO,f s p,f m o,f x q,u,ez,iL]⟩;simp only[cr,gj,gq]at r;rcases r with rfl|rfl|rfl|rfl|rfl
 ·exact⟨iB _ _ (oA _ (by decide)) _ _,pE _ _ _⟩
 ·exact e s p
 ·exact e m o
 ·exact⟨(j.1.below g).mono g.size,j.2⟩
 ·exact e x q
theorem gP(N n:Nat)(x:Tm (n+1)):kZ (N+1) (bq (N+1) (n+1) x)=kZ (n+1) x:=by
 unfold kZ;rw[Nz]
theorem zR(n:Nat)(s m x:Tm (n+1))(a:ay)(b k:Nat)(xs:List (Tm (n+2)))(c:xs.length=k):[ae 2,ae 0,ag ⟨#[111,110]⟩,af none 0 0,ae s.1.1,ae s.1.2.1,ag s.1.2.2,af s.2.1.1 s.2.2.length s.2.1.2,ae m.1.1,ae m.1.2.1,ag m.1.2.2,af m.2.1.1 m.2.2.length m.2.1.2,ae 4,ae 0,ag ⟨#[]⟩,af a k b,ae x.1.1,ae x.1.2.1,ag x.1.2.2,af x.2.1.1 x.2.2.length x.2.1.2]=
     List.flatMap (kZ (n+3)) [bQ Oe (n+2),bq (n+3) (n+1) s,bq (n+3) (n+1) m,((4,0,.empty),(a,b),xs),bq (n+3) (n+1) x]:=by
 show _=kZ (n+3) (bQ Oe (n+2))++(kZ (n+3) (bq (n+3) (n+1) s)++(kZ (n+3) (bq (n+3) (n+1) m)++(kZ (n+3) ((4,0,.empty),(a,b),xs)++(kZ (n+3) (bq (n+3) (n+1) x)++ []))));rw[gP,gP,gP,<-c];rfl
theorem mL{b:Type}(f:j->b)(p:List j)(k:Nat)(x:j)(a:p[k]?=some x):(p.take (k+1)).map f=(p.take k).map f++ [f x]:=by
 rw[dL,a];simp
def Q1(n B:Nat)(p:List (Ac (n+1)))(w0:ah)(base k:Nat)(v:az)(wr:ah):Prop:=
 ∃a,a.length=k/\eI (n+2) B base a v w0 wr/\aO (λc b=>aK (n+2) c (n+2) b) a ((p.take k).map (cP n))=true
theorem uQ(n:Nat)(s m x:Tm (n+1))(p:List (Ac (n+1)))(len:Nat)(an:Hid (p.length=len))(bw:len<=8)(a:ay)(pc:Nat)(B:Nat)(w:ah)(be:Hid (In B w (n+1) s))(ba:Hid (In B w (n+1) m))(bg:Hid (In B w (n+1) x))(bc:Hid (Lay B w 11 (gZ (n+1)) (jL (n+1) B w) a p))(ab:B<=w.heap.size)(Y:Tm (n+4))(a4:Hid (Y=eD n ((s,m,x),(a,pc),p))):au 174 #[.agg #[ae s.1.1,ae s.1.2.1,ag s.1.2.2,af s.2.1.1 s.2.2.length s.2.1.2,ae m.1.1,ae m.1.2.1,ag m.1.2.2,af m.2.1.1 m.2.2.length m.2.1.2,af a len pc,ae x.1.1,ae x.1.2.1,ag x.1.2.2,af x.2.1.1 x.2.2.length x.2.1.2]] w (iV B (n+4) Y w):=by
 obtain⟨bh,hit,ao,aq,ar⟩:=bT gN;have G:=av (⟨hit,ao,aq,ar⟩:_/\_/\_/\_);clear hit ao aq ar;go_enter func174,ntmps174;go_wp2_with fail;have F:=av (ld w (.cells #[ae s.1.1,ae s.1.2.1,ag s.1.2.2,af s.2.1.1 s.2.2.length s.2.1.2,ae m.1.1,ae m.1.2.1,ag m.1.2.2,af m.2.1.1 m.2.2.length m.2.1.2,af a len pc,ae x.1.1,ae x.1.2.1,ag x.1.2.2,af x.2.1.1 x.2.2.length x.2.1.2] 229) (.cells #[ae 0,ae 0,ag ⟨#[]⟩,af none 0 0] 54));generalize O:(w.alloc _).alloc _=z;rw[O]at F;have J:Hid (ap w z/\z.heap.size=w.heap.size+2):=by
  subst O;exact⟨(aW _ _).alloc (by simp) _,by simp⟩
 have S:Hid (∀wr,Below (w.heap.size+2) z wr->ap w wr):=λwr y=>J.out.1.trans (y.mono (by omega));go_loopw [3,9] (λv R wr=>∃(k:Nat)(ax:az),k<=len/\R=ae k/\ax=v/\Hid (Q1 n B p z (w.heap.size+2) k ax wr)) (λ_ R _=>len-(intOf R).toNat)
 case atStart=>exact⟨0,_,by omega,rfl,rfl,[],rfl,fE.nil _,rfl⟩
 case round=>
  obtain⟨k,v,bx,rfl,rfl,W⟩:=hrel;obtain⟨u,t,j,L⟩:∃u:List (Tm (n+2)),Hid (u.length=k)/\Hid (eI (n+2) B (w.heap.size+2) u v z wr)/\Hid (aO (λa b=>aK (n+2) a (n+2) b) u ((p.take k).map (cP n))=true):=W.out;clear W;have E:=av (S.out wr j.out.1);have a7:w.heap.size+2<=wr.heap.size:=by have:=j.out.1.size;have:=J.out.2;omega
  by_cases a9:k<len
  ·obtain⟨e,Q⟩:∃e,p[k]?=some e:=⟨p[k]'(by rw[an.out];exact a9),aV _⟩;have aI:=av (mL (cP n) p k e Q);obtain⟨bi,po,rfl,bC,⟨bj,⟨bk,bm,bn,bo⟩,⟨bp,bq,br,bs⟩,bt,bl⟩,al⟩:=(lk (fW (n+1)) (E.out.mono ab) bc.out).ac k e Q;have ad:B<=wr.heap.size:=by omega
   have T:Hid (∀w1,ap wr w1->au 201 #[.agg #[ae e.1,ae e.2.1.1.1.1,ae e.2.1.1.1.2.1,ag e.2.1.1.1.2.2,af e.2.1.1.2.1.1 e.2.1.1.2.2.length e.2.1.1.2.1.2,ae e.2.1.2.1.1,ae e.2.1.2.1.2.1,ag e.2.1.2.1.2.2,af e.2.1.2.2.1.1 e.2.1.2.2.2.length e.2.1.2.2.1.2,ag e.2.2.1,ae e.2.2.2]] w1 (iV B (n+2) (cP n e) w1)):=
    λw1 aw=>Dw n e B w1 ((fW (n+1)).below (aw.mono ad) al) (aG ad aw.size)
   clear al Q;generalize cP n e=bu at*;have bz:(0:Int)<=(k:Int):=by omega
   have bA:(k:Int)<(len:Int):=by omega
   have bD:bi<wr.heap.size:=by omega
   obtain⟨l,q,C⟩:=j.out.slice;rw[t.out]at C;subst C;go_wp2_with fail;refine(T.out _ bf).mono ?_;rintro N D ⟨i,rfl,H⟩;have K:Hid (ap wr D):=bf.trans (H.out.1.mono (by simp));have Z:dG (n+2) i=aB i.1.1 i.1.2.1 i.1.2.2 i.2.1.1 i.2.2.length i.2.1.2:=rfl;rw[Z];have aL:=λ(o:Obj)(g c:Nat)(w4:ah) bb a8 a5=>av (j.out.app t.out (by omega) a7 K.out i H.out.2.1 (H.out.2.2.1.mono λb a6=>by simp at a6;omega) (o:=o) (g:=g) (c:=c) (w4:=w4) bb a8 a5);have bv:wr.heap.size<=D.heap.size:=K.out.size;clear Z T bj bk bm bn bo bp bq br bs bt bl;go_wp2_with (at_builtin;refine wpList_append_lies _ rfl _ _ 52 rfl (w.heap.size+2) 54 bh _ 4 56 underlying52 G.out.1 G.out.2.1 G.out.2.2.1 G.out.2.2.2 rfl (by decide) (af l k q) k (u.flatMap (kZ (n+2))) (by simp[Act.eval]) (j.out.own t.out K.out _) ⟨D.heap.size,0,none⟩ 1 1 (kZ (n+2) i) (by simp[Act.eval]) rfl (A2 D (gM (n+2) i) rfl) (vh _ _) (by decide) (by unfold maxLen;omega) (by omega) (by simp;omega) (D.heap.size+1) (by simp) ?_;intro a2 M w4 am ak aj bB;have aJ:=aL _ a2 M w4 am ak aj;clear am ak aj);go_roundw
   case rel=>exact⟨k+1,_,by omega,by go_num,rfl,u++ [i],by simp[t.out],aJ.out,by rw[aI.out];exact js _ _ _ _ _ L.out H.out.2.2.2⟩
   case measure=>simp[intOf];omega
  ·obtain rfl:k=len:=by omega
   obtain⟨l,q,C⟩:=j.out.slice;rw[t.out]at C;subst C;have f:=av (And.intro ((j.out.1.block w.heap.size (by omega)).trans F.out.1) ((j.out.1.block (w.heap.size+1) (by omega)).trans F.out.2));have aP:wr.cell? ⟨w.heap.size,0,none⟩=some (ae s.1.1):=aD f.out.1 0;have aQ:wr.cell? ⟨w.heap.size,1,none⟩=some (ae s.1.2.1):=aD f.out.1 1;have aU:wr.cell? ⟨w.heap.size,2,none⟩=some (ag s.1.2.2):=aD f.out.1 2;have aX:wr.cell? ⟨w.heap.size,3,none⟩=some (af s.2.1.1 s.2.2.length s.2.1.2):=aD f.out.1 3;have M:wr.cell? ⟨w.heap.size,4,none⟩=some (ae m.1.1):=aD f.out.1 4;have aY:wr.cell? ⟨w.heap.size,5,none⟩=some (ae m.1.2.1):=aD f.out.1 5;have aZ:wr.cell? ⟨w.heap.size,6,none⟩=some (ag m.1.2.2):=aD f.out.1 6;have a0:wr.cell? ⟨w.heap.size,7,none⟩=some (af m.2.1.1 m.2.2.length m.2.1.2):=aD f.out.1 7;have a1:wr.cell? ⟨w.heap.size,9,none⟩=some (ae x.1.1):=aD f.out.1 9;have aR:wr.cell? ⟨w.heap.size,10,none⟩=some (ae x.1.2.1):=aD f.out.1 10;have aS:wr.cell? ⟨w.heap.size,11,none⟩=some (ag x.1.2.2):=aD f.out.1 11;have aT:wr.cell? ⟨w.heap.size,12,none⟩=some (af x.2.1.1 x.2.2.length x.2.1.2):=aD f.out.1 12;have d0:wr.cell? ⟨w.heap.size+1,0,none⟩=some (ae 0):=aD f.out.2 0;have d1:wr.cell? ⟨w.heap.size+1,1,none⟩=some (ae 0):=aD f.out.2 1;have d2:wr.cell? ⟨w.heap.size+1,2,none⟩=some (ag ⟨#[]⟩):=aD f.out.2 2;have d3:wr.cell? ⟨w.heap.size+1,3,none⟩=some (af none 0 0):=aD f.out.2 3;have f0:=λI=>dt f.out.2 I;have bd:w.heap.size<wr.heap.size:=by omega
   have A:w.heap.size+1<wr.heap.size:=by omega
   have U:Hid (∀d,ap wr d->(d.cell? ⟨w.heap.size,0,none⟩=some (ae s.1.1)/\d.cell? ⟨w.heap.size,1,none⟩=some (ae s.1.2.1)/\d.cell? ⟨w.heap.size,2,none⟩=some (ag s.1.2.2)/\d.cell? ⟨w.heap.size,3,none⟩=some (af s.2.1.1 s.2.2.length s.2.1.2))/\
     (d.cell? ⟨w.heap.size,4,none⟩=some (ae m.1.1)/\d.cell? ⟨w.heap.size,5,none⟩=some (ae m.1.2.1)/\d.cell? ⟨w.heap.size,6,none⟩=some (ag m.1.2.2)/\d.cell? ⟨w.heap.size,7,none⟩=some (af m.2.1.1 m.2.2.length m.2.1.2))/\
     (d.cell? ⟨w.heap.size,9,none⟩=some (ae x.1.1)/\d.cell? ⟨w.heap.size,10,none⟩=some (ae x.1.2.1)/\d.cell? ⟨w.heap.size,11,none⟩=some (ag x.1.2.2)/\d.cell? ⟨w.heap.size,12,none⟩=some (af x.2.1.1 x.2.2.length x.2.1.2))):=λd y=>by
    have h:=λo=>aC y w.heap.size o bd;exact⟨⟨(h _).trans aP,(h _).trans aQ,(h _).trans aU,(h _).trans aX⟩,⟨(h _).trans M,(h _).trans aY,(h _).trans aZ,(h _).trans a0⟩,(h _).trans a1,(h _).trans aR,(h _).trans aS,(h _).trans aT⟩
   have X:Hid True:=trivial;have aF:=λ(w1:ah)(a3:ap wr w1)=>av (zS (base:=w.heap.size+2) (ys:=p.map (cP n)) (w1:=w1) ab be.out ba.out bg.out E.out j.out.tup (dD rfl (by have y:=L.out;rw[bI (by rw[an.out];omega)]at y;exact y)) a3);have aH:=av t.out;clear O j t L f S J F;go_wp2_with fail
   go_region_held3 (λd=>(d.cell? ⟨w.heap.size,0,none⟩=some (ae s.1.1)/\d.cell? ⟨w.heap.size,1,none⟩=some (ae s.1.2.1)/\d.cell? ⟨w.heap.size,2,none⟩=some (ag s.1.2.2)/\d.cell? ⟨w.heap.size,3,none⟩=some (af s.2.1.1 s.2.2.length s.2.1.2))/\
       (d.cell? ⟨w.heap.size,4,none⟩=some (ae m.1.1)/\d.cell? ⟨w.heap.size,5,none⟩=some (ae m.1.2.1)/\d.cell? ⟨w.heap.size,6,none⟩=some (ag m.1.2.2)/\d.cell? ⟨w.heap.size,7,none⟩=some (af m.2.1.1 m.2.2.length m.2.1.2))/\
       (d.cell? ⟨w.heap.size,9,none⟩=some (ae x.1.1)/\d.cell? ⟨w.heap.size,10,none⟩=some (ae x.1.2.1)/\d.cell? ⟨w.heap.size,11,none⟩=some (ag x.1.2.2)/\d.cell? ⟨w.heap.size,12,none⟩=some (af x.2.1.1 x.2.2.length x.2.1.2))) (first|(go_keep;done)|exact U.out _ r.out|(refine U.out _ ?_;go_grown;done))
    ((first
     | (go_at_call 148;refine(iZ _ _).mono ?_;rintro N w1 ⟨rfl,rfl⟩)
     | (go_at_call 150;have aN:=X;clear X;refine(fY _ _ _ _).mono ?_;rintro N w1 ⟨rfl,rfl⟩)
     | (go_at_call 150;clear aN;refine(fY _ _ _ _).mono ?_;rintro N aA ⟨rfl,P⟩;have r:=av (show ap wr aA by rw[P];go_grown);have aM:=av P;clear P;replace d0:=(aC r.out _ _ A).trans d0;replace d1:=(aC r.out _ _ A).trans d1;replace d2:=(aC r.out _ _ A).trans d2;replace d3:=(aC r.out _ _ A).trans d3;replace f0:=λI=>(ib r.out _ I A).trans (f0 I))))
   go_wp2_with fail;refine aE (v:=.agg #[ae 4,ae 0,ag ⟨#[]⟩,af (some ⟨wr.heap.size+1+1,0,none⟩) 5 5]) (by simp[results,results174,go_sem,d0,d1,d2,d3]) rfl ?_;rw[a4.out];have ai:ap wr ((wr.alloc (.cells #[ae 2,ae 0,ag ⟨#[111,110]⟩,af none 0 0] 54)).alloc (.cells #[ae 4,ae 0,ag ⟨#[]⟩,af l k q] 54)):=by go_grown
   have aa:Below (((wr.alloc (.cells #[ae 2,ae 0,ag ⟨#[111,110]⟩,af none 0 0] 54)).alloc (.cells #[ae 4,ae 0,ag ⟨#[]⟩,af l k q] 54)).alloc (.cells #[ae 2,ae 0,ag ⟨#[111,110]⟩,af none 0 0,ae s.1.1,ae s.1.2.1,ag s.1.2.2,af s.2.1.1 s.2.2.length s.2.1.2,ae m.1.1,ae m.1.2.1,ag m.1.2.2,af m.2.1.1 m.2.2.length m.2.1.2,ae 4,ae 0,ag ⟨#[]⟩,af l k q,ae x.1.1,ae x.1.2.1,ag x.1.2.2,af x.2.1.1 x.2.2.length x.2.1.2] 54)).heap.size (((wr.alloc (.cells #[ae 2,ae 0,ag ⟨#[111,110]⟩,af none 0 0] 54)).alloc (.cells #[ae 4,ae 0,ag ⟨#[]⟩,af l k q] 54)).alloc (.cells #[ae 2,ae 0,ag ⟨#[111,110]⟩,af none 0 0,ae s.1.1,ae s.1.2.1,ag s.1.2.2,af s.2.1.1 s.2.2.length s.2.1.2,ae m.1.1,ae m.1.2.1,ag m.1.2.2,af m.2.1.1 m.2.2.length m.2.1.2,ae 4,ae 0,ag ⟨#[]⟩,af l k q,ae x.1.1,ae x.1.2.1,ag x.1.2.2,af x.2.1.1 x.2.2.length x.2.1.2] 54)) aA:=by rw[aM.out];go_grown
   have V:=aF _ ai;exact FH (B:=B) (base:=w.heap.size+2) _ _ (by have:=ai.size;omega) (by simp) rfl (by omega) (AI (by omega) (by omega) aa) (aG aa.size (cT (bK _ _ _ _).symm)) (dW (E.out.trans (r.out.mono E.out.size)) (by omega)) (zR n s m x l q k u aH.out) (by show 5<=8;omega) V.out.1 V.out.2
theorem xj(n:Nat)(c:Cl (n+1))(B:Nat)(w:ah)(a:iR (n+1) B w c)(e:c.2.2.length<=8)(f:B<=w.heap.size):au 174 #[.agg (fH (n+1) c).toArray] w (iV B (n+4) (eD n c) w):=by
 obtain⟨⟨h,g,i⟩,⟨d,pc⟩,b⟩:=c;exact uQ n h g i b b.length rfl e d pc B w a.1.1 a.1.2.1 a.1.2.2 a.2.2 f _ rfl
def Q4(n B:Nat)(d:List (Tm (n+4)))(p:List (Cl (n+1)))(w0:ah)(base k:Nat)(v:az)(wr:ah):Prop:=
 ∃a,a.length=k+2/\eI (n+4) B base a v w0 wr/\aO (λc b=>aK (n+4) c (n+4) b) a (d++(p.take k).map (eD n))=true
theorem rD(n:Nat)(s:aq)(a9:s.size<=maxLen)(p:List (Cl (n+1)))(len:Nat)(aw:Hid (p.length=len))(bw:len<=6)(a1:Hid (∀c∈p,c.2.2.length<=8))(a:ay)(pc:Nat)(B:Nat)(w:ah)(a8:Hid (Lay B w 13 (fH (n+1)) (iR (n+1) B w) a p))(a2:B<=w.heap.size)(Z:Tm (n+5))(a3:Hid (Z=eQ n (s,(a,pc),p))):au 149 #[.agg #[ag s,af a len pc]] w (iV B (n+5) Z w):=by
 obtain⟨bb,hit,aA,aF,aI⟩:=bT gN;have A:=av (⟨hit,aA,aF,aI⟩:_/\_/\_/\_);clear hit aA aF aI;go_enter func149,ntmps149;go_wp2_with fail;have O:=av (ld w (.cells #[ag s,af a len pc] 176) (.cells #[ae 0,ae 0,ag ⟨#[]⟩,af none 0 0] 54)).2;have z:=av (ld w (.cells #[ag s,af a len pc] 176) (.cells #[ae 0,ae 0,ag ⟨#[]⟩,af none 0 0] 54)).1;generalize P:(w.alloc _).alloc _=e;rw[P]at O z;have j:Hid (ap w e/\e.heap.size=w.heap.size+2):=by
  subst P;exact⟨(aW _ _).alloc (by simp) _,by simp⟩
 have aM:Hid (∀wr,Below (w.heap.size+2) e wr->ap w wr):=λwr h=>j.out.1.trans (h.mono (by omega));clear P;have aa:ai e w.heap.size 0 (ag s):=aD z.out 0;have ab:ai e w.heap.size 1 (af a len pc):=aD z.out 1;have ax:w.heap.size<e.heap.size:=by have:=j.out.2;omega
 have M:Hid (∀w',ap e w'->ai w' w.heap.size 0 (ag s)/\ai w' w.heap.size 1 (af a len pc)):=λw' h=>⟨(aC h _ _ ax).trans aa,(aC h _ _ ax).trans ab⟩;clear z
 go_region_held3 (λw'=>w'.cell? ⟨w.heap.size,0,none⟩=some (ag s)/\w'.cell? ⟨w.heap.size,1,none⟩=some (af a len pc)) (first|(go_keep;done)|(refine M.out _ ?_;go_grown;done))
  ((go_at_call 148;refine(iZ _ _).mono ?_;rintro D w1 ⟨rfl,rfl⟩))
 have X:Hid (aO (λa b=>aK (n+4) a (n+4) b) [bQ xr (n+3),bQ s (n+3)] ([bQ xr (n+3),bQ s (n+3)]++(p.take 0).map (eD n))=true):=by
  show _=true;simp[aO,ez]
 have L:Hid (eI (n+4) B (w.heap.size+2) [bQ xr (n+3),bQ s (n+3)] (af (some ⟨e.heap.size+1+1,0,none⟩) 2 2) e (((e.alloc (.cells #[ae 2,ae 0,ag ⟨#[98,101,104]⟩,af none 0 0] 54)).alloc (.cells #[ae 2,ae 0,ag s,af none 0 0] 54)).alloc (.cells #[ae 2,ae 0,ag ⟨#[98,101,104]⟩,af none 0 0,ae 2,ae 0,ag s,af none 0 0] 54)).drew):=by
  have h:=fE.lit (T:=54) (k:=4) (B:=B) (base:=w.heap.size+2) (eE (n+4)) [bQ xr (n+3),bQ s (n+3)] (w0:=e) (w1:=(e.alloc (.cells #[ae 2,ae 0,ag ⟨#[98,101,104]⟩,af none 0 0] 54)).alloc (.cells #[ae 2,ae 0,ag s,af none 0 0] 54)) (cs:= #[ae 2,ae 0,ag ⟨#[98,101,104]⟩,af none 0 0,ae 2,ae 0,ag s,af none 0 0]) rfl (pY _) (by show 2<=maxLen;unfold maxLen;omega) (by have:=j.out.2;simp;omega) (((aH _ _).alloc (by have:=j.out.2;omega) _).alloc (by have:=j.out.2;simp;omega) _) (λd m=>by
   simp only[cr,gj,gq]at m;rcases m with rfl|rfl
   ·exact⟨iB _ _ (oA _ (by decide)) _ _,pE _ _ _⟩
   ·exact⟨iB _ _ a9 _ _,pE _ _ _⟩)
  have D:((e.alloc (.cells #[ae 2,ae 0,ag ⟨#[98,101,104]⟩,af none 0 0] 54)).alloc (.cells #[ae 2,ae 0,ag s,af none 0 0] 54)).heap.size=e.heap.size+1+1:=by simp
  rw[D]at h;exact h.later (eE _) (by have:=j.out.2;simp;omega) (aH _ _).drew
 have N:=av (M.out _ (show ap e (((e.alloc (.cells #[ae 2,ae 0,ag ⟨#[98,101,104]⟩,af none 0 0] 54)).alloc (.cells #[ae 2,ae 0,ag s,af none 0 0] 54)).alloc (.cells #[ae 2,ae 0,ag ⟨#[98,101,104]⟩,af none 0 0,ae 2,ae 0,ag s,af none 0 0] 54)).drew by go_grown));generalize ak:(((e.alloc _).alloc _).alloc _).drew=aX;rw[ak]at L N;have bE:ai aX w.heap.size 1 (af a len pc):=N.out.2;clear ak M N aa ab;go_wp2_with fail;go_loopw [3,14] (λv R wr=>∃(k:Nat)(aL:az),k<=len/\R=ae k/\aL=v/\Hid (Q4 n B ([bQ xr (n+3),bQ s (n+3)]) p e (w.heap.size+2) k aL wr)) (λ_ R _=>len-(intOf R).toNat)
 case atStart=>exact⟨0,_,by omega,rfl,rfl,_,rfl,L.out,X.out⟩
 case round=>
  clear L X;obtain⟨k,v,bx,rfl,rfl,Y⟩:=hrel;obtain⟨t,q,i,W⟩:∃t:List (Tm (n+4)),Hid (t.length=k+2)/\Hid (eI (n+4) B (w.heap.size+2) t v e wr)/\Hid (aO (λa b=>aK (n+4) a (n+4) b) t (([bQ xr (n+3),bQ s (n+3)])++(p.take k).map (eD n))=true):=Y.out;clear Y;have K:=av (aM.out wr i.out.1);have am:w.heap.size+2<=wr.heap.size:=by have:=i.out.1.size;have:=j.out.2;omega
  by_cases a6:k<len
  ·obtain⟨d,m⟩:∃d,p[k]?=some d:=⟨p[k]'(by rw[aw.out];exact a6),aV _⟩;have aP:=av (mL (eD n) p k d m);obtain⟨bc,po,rfl,bC,⟨⟨bd,be,bj,bk⟩,⟨bl,bm,bn,bo⟩,bp,bq,bg,bh,bi⟩,ao⟩:=(lk (eN (n+1)) (K.out.mono a2) a8.out).cl k d m;have aj:B<=wr.heap.size:=by omega
   have aS:=av m
   have V:Hid (∀w1,ap wr w1->au 174 #[.agg #[ae d.1.1.1.1,ae d.1.1.1.2.1,ag d.1.1.1.2.2,af d.1.1.2.1.1 d.1.1.2.2.length d.1.1.2.1.2,ae d.1.2.1.1.1,ae d.1.2.1.1.2.1,ag d.1.2.1.1.2.2,af d.1.2.1.2.1.1 d.1.2.1.2.2.length d.1.2.1.2.1.2,af d.2.1.1 d.2.2.length d.2.1.2,ae d.1.2.2.1.1,ae d.1.2.2.1.2.1,ag d.1.2.2.1.2.2,af d.1.2.2.2.1.1 d.1.2.2.2.2.length d.1.2.2.2.1.2]] w1 (iV B (n+4) (eD n d) w1)):=
    λw1 F=>xj n d B w1 ((eN (n+1)).below (F.mono aj) ao) (a1.out d (aU aS.out)) (aG aj F.size)
   clear ao m;generalize eD n d=br at*;have bz:(0:Int)<=(k:Int):=by omega
   have bA:(k:Int)<(len:Int):=by omega
   have bD:bc<wr.heap.size:=by omega
   obtain⟨H,I,x⟩:=i.out.slice;rw[q.out]at x;subst x;go_wp2_with fail;refine(V.out _ bf).mono ?_;rintro D y ⟨f,rfl,C⟩;have J:Hid (ap wr y):=bf.trans (C.out.1.mono (by simp));have E:dG (n+4) f=aB f.1.1 f.1.2.1 f.1.2.2 f.2.1.1 f.2.2.length f.2.1.2:=rfl;rw[E];have aR:=λ(o:Obj)(g c:Nat)(w4:ah) a7 a5 a4=>av (i.out.app q.out (by omega) am J.out f C.out.2.1 (C.out.2.2.1.mono λb Q=>by simp at Q;omega) (o:=o) (g:=g) (c:=c) (w4:=w4) a7 a5 a4);have bv:wr.heap.size<=y.heap.size:=J.out.size;clear E V bd be bj bk bl bm bn bo bp bq bg bh bi;go_wp2_with (at_builtin;refine wpList_append_lies _ rfl _ _ 52 rfl (w.heap.size+2) 54 bb _ 4 56 underlying52 A.out.1 A.out.2.1 A.out.2.2.1 A.out.2.2.2 rfl (by decide) (af H (k+2) I) (k+2) (t.flatMap (kZ (n+4))) (by simp[Act.eval]) (i.out.own q.out J.out _) ⟨y.heap.size,0,none⟩ 1 1 (kZ (n+4) f) (by simp[Act.eval]) rfl (A2 y (gM (n+4) f) rfl) (vh _ _) (by decide) (by unfold maxLen;omega) (by omega) (by simp;omega) (y.heap.size+1) (by simp) ?_;intro a0 aY w4 ar an al bB;have aQ:=aR _ a0 aY w4 ar an al;clear ar an al);go_roundw
   case rel=>exact⟨k+1,_,by omega,by go_num,rfl,t++ [f],by have:=q.out;simp;omega,aQ.out,by rw[aP.out,<-lB];exact js _ _ _ _ _ W.out C.out.2.2.2⟩
   case measure=>simp[intOf];omega
  ·obtain rfl:k=len:=by omega
   obtain⟨H,I,x⟩:=i.out.slice;rw[q.out]at x;subst x;have r:=av ((i.out.1.block (w.heap.size+1) (by omega)).trans O.out);have d0:wr.cell? ⟨w.heap.size+1,0,none⟩=some (ae 0):=aD r.out 0;have d1:wr.cell? ⟨w.heap.size+1,1,none⟩=some (ae 0):=aD r.out 1;have d2:wr.cell? ⟨w.heap.size+1,2,none⟩=some (ag ⟨#[]⟩):=aD r.out 2;have d3:wr.cell? ⟨w.heap.size+1,3,none⟩=some (af none 0 0):=aD r.out 3;have f0:=λG=>dt r.out G;have u:w.heap.size+1<wr.heap.size:=by omega
   have aN:=λ(aT w':ah) Q F ba=>av (eI.tells (w:=w) (ys:=([bQ xr (n+3),bQ s (n+3)])++p.map (eD n)) (w':=w') (i.out.later (eE _) am (w1:=aT) Q) (by omega) (by have h:=W.out;rw[bI (by rw[aw.out];omega)]at h;exact h) F ba);clear r O;go_wp2_with (go_at_call 150;refine(fY _ _ _ _).mono ?_;rintro D S ⟨rfl,aJ⟩;have l:=av (show ap wr S by rw[aJ];go_grown);clear aJ;replace d0:=(aC l.out _ _ u).trans d0;replace d1:=(aC l.out _ _ u).trans d1;replace d2:=(aC l.out _ _ u).trans d2;replace d3:=(aC l.out _ _ u).trans d3;replace f0:=λG=>(ib l.out _ G u).trans (f0 G));refine aE (v:=.agg #[ae 4,ae 0,ag ⟨#[]⟩,af H (k+2) I]) (by simp[results,results149,go_sem,d0,d1,d2,d3]) rfl ?_;rw[a3.out];obtain⟨bs,bt,ad,U⟩:=(aN S (dl S (w.heap.size+1) 0 (ae 4) (ae 0) (ag ⟨#[]⟩) (af H (k+2) I)) l.out (AI (by omega) (by omega) (aH _ _)) (cT (bK _ _ _ _).symm)).out (dW (K.out.trans (l.out.mono K.out.size)) (by omega));rw[q.out]at ad U;injection ad with aZ bu E;subst aZ E;exact U
theorem sM(n:Nat)(b:Bh (n+1))(B:Nat)(w:ah)(a:rN (n+1) B w b)(f:b.2.2.length<=6)(g:∀c∈b.2.2,c.2.2.length<=8)(h:B<=w.heap.size):au 149 #[.agg (rK (n+1) b).toArray] w (iV B (n+5) (eQ n b) w):=by
 obtain⟨i,⟨e,pc⟩,d⟩:=b;exact rD n i a.1 d d.length rfl f g e pc B w a.2.2 h _ rfl
def Q6(n B:Nat)(d:List (Tm (n+5)))(p:List (Bh (n+1)))(w0:ah)(base k:Nat)(v:az)(wr:ah):Prop:=
 ∃a,a.length=k+1/\eI (n+5) B base a v w0 wr/\aO (λc b=>aK (n+5) c (n+5) b) a (d++(p.take k).map (eQ n))=true
theorem tO(n:Nat)(p:List (Bh (n+1)))(len:Nat)(am:Hid (p.length=len))(bc:len<=7)(Y:Hid (∀b∈p,b.2.2.length<=6/\∀c∈b.2.2,c.2.2.length<=8))(a:ay)(pc:Nat)(B:Nat)(w:ah)(a0:Hid (iX (n+1) B w a p))(aR:B<=w.heap.size)(W:Tm (n+6))(aS:Hid (W=cY n p)):au 121 #[af a len pc] w (iV B (n+6) W w):=by
 obtain⟨a2,hit,an,ao,aq⟩:=bT gN;have y:=av (⟨hit,an,ao,aq⟩:_/\_/\_/\_);clear hit an ao aq;go_enter func121,ntmps121;go_wp2_with (go_at_call 148;refine(iZ _ _).mono ?_;rintro A w1 ⟨rfl,rfl⟩);have K:=av (aL w (.cells #[ae 0,ae 0,ag ⟨#[]⟩,af none 0 0] 54));have S:Hid (aO (λa b=>aK (n+5) a (n+5) b) [bQ px (n+4)] ([bQ px (n+4)]++(p.take 0).map (eQ n))=true):=by
  show _=true;simp[aO,ez]
 generalize L:w.alloc (.cells #[ae 0,ae 0,ag ⟨#[]⟩,af none 0 0] 54)=e;rw[L]at K;have s:Hid (ap w e/\e.heap.size=w.heap.size+1):=by
  subst L;exact⟨aW _ _,by simp⟩
 have ax:Hid (∀wr,Below (w.heap.size+1) e wr->ap w wr):=λwr j=>s.out.1.trans (j.mono (by omega));clear L;have J:Hid (eI (n+5) B (w.heap.size+1) [bQ px (n+4)] (af (some ⟨w.heap.size+1+1,0,none⟩) 1 1) e ((e.alloc (.cells #[ae 2,ae 0,ag ⟨#[99,111,100,101]⟩,af none 0 0] 54)).alloc (.cells #[ae 2,ae 0,ag ⟨#[99,111,100,101]⟩,af none 0 0] 54))):=by
  have j:=fE.lit (T:=54) (k:=4) (B:=B) (base:=w.heap.size+1) (eE (n+5)) [bQ px (n+4)] (w0:=e) (w1:=e.alloc (.cells #[ae 2,ae 0,ag ⟨#[99,111,100,101]⟩,af none 0 0] 54)) (cs:= #[ae 2,ae 0,ag ⟨#[99,111,100,101]⟩,af none 0 0]) rfl (pY _) (by show 1<=maxLen;unfold maxLen;omega) (by have:=s.out.2;simp;omega) ((aH _ _).alloc (by have:=s.out.2;omega) _) (λd l=>by
   simp only[cr,gj,gq]at l;subst l
   exact⟨iB _ _ (oA _ (by decide)) _ _,pE _ _ _⟩)
  have A:(e.alloc (.cells #[ae 2,ae 0,ag ⟨#[99,111,100,101]⟩,af none 0 0] 54)).heap.size=w.heap.size+1+1:=by have:=s.out.2;simp;omega
  rw[A]at j;exact j
 generalize aa:(e.alloc _).alloc _=a6;rw[aa]at J;clear aa;go_loopw [3,10] (λv N wr=>∃(k:Nat)(aw:az),k<=len/\N=ae k/\aw=v/\Hid (Q6 n B ([bQ px (n+4)]) p e (w.heap.size+1) k aw wr)) (λ_ N _=>len-(intOf N).toNat)
 case atStart=>exact⟨0,_,by omega,rfl,rfl,_,rfl,J.out,S.out⟩
 case round=>
  clear J S;obtain⟨k,v,bd,rfl,rfl,U⟩:=hrel;obtain⟨r,m,h,R⟩:∃r:List (Tm (n+5)),Hid (r.length=k+1)/\Hid (eI (n+5) B (w.heap.size+1) r v e wr)/\Hid (aO (λa b=>aK (n+5) a (n+5) b) r (([bQ px (n+4)])++(p.take k).map (eQ n))=true):=U.out;clear U;have I:=av (ax.out wr h.out.1);have ad:w.heap.size+1<=wr.heap.size:=by have:=h.out.1.size;have:=s.out.2;omega
  by_cases aY:k<len
  ·obtain⟨d,l⟩:∃d,p[k]?=some d:=⟨p[k]'(by rw[am.out];exact aY),aV _⟩;have aF:=av (mL (eQ n) p k d l);obtain⟨a3,po,rfl,bj,⟨a4,a5⟩,ak⟩:=(iX.below (I.out.mono aR) a0.out).bh k d l;have Z:B<=wr.heap.size:=by omega
   have V:=av l
   have Q:Hid (∀w1,ap wr w1->au 149 #[.agg #[ag d.1,af d.2.1.1 d.2.2.length d.2.1.2]] w1 (iV B (n+5) (eQ n d) w1)):=
    λw1 D=>sM n d B w1 ((eM (n+1)).below (D.mono Z) ak) (Y.out d (aU V.out)).1 (Y.out d (aU V.out)).2 (aG Z D.size)
   clear ak l;generalize eQ n d=a7 at*;have be:(0:Int)<=(k:Int):=by omega
   have bg:(k:Int)<(len:Int):=by omega
   have bk:a3<wr.heap.size:=by omega
   obtain⟨F,G,u⟩:=h.out.slice;rw[m.out]at u;subst u;go_wp2_with fail;refine(Q.out _ bf).mono ?_;rintro A x ⟨f,rfl,z⟩;have H:Hid (ap wr x):=bf.trans (z.out.1.mono (by simp));have C:dG (n+5) f=aB f.1.1 f.1.2.1 f.1.2.2 f.2.1.1 f.2.2.length f.2.1.2:=rfl;rw[C];have aJ:=λ(o:Obj)(g c:Nat)(w4:ah) aZ aX aT=>av (h.out.app m.out (by omega) ad H.out f z.out.2.1 (z.out.2.2.1.mono λb M=>by simp at M;omega) (o:=o) (g:=g) (c:=c) (w4:=w4) aZ aX aT);have bb:wr.heap.size<=x.heap.size:=H.out.size;clear C Q a4 a5;go_wp2_with (at_builtin;refine wpList_append_lies _ rfl _ _ 52 rfl (w.heap.size+1) 54 a2 _ 4 56 underlying52 y.out.1 y.out.2.1 y.out.2.2.1 y.out.2.2.2 rfl (by decide) (af F (k+1) G) (k+1) (r.flatMap (kZ (n+5))) (by simp[Act.eval]) (h.out.own m.out H.out _) ⟨x.heap.size,0,none⟩ 1 1 (kZ (n+5) f) (by simp[Act.eval]) rfl (A2 x (gM (n+5) f) rfl) (vh _ _) (by decide) (by unfold maxLen;omega) (by omega) (by simp;omega) (x.heap.size+1) (by simp) ?_;intro aQ aN w4 al aj ab bi;have aI:=aJ _ aQ aN w4 al aj ab;clear al aj ab);go_roundw
   case rel=>exact⟨k+1,_,by omega,by go_num,rfl,r++ [f],by have:=m.out;simp;omega,aI.out,by rw[aF.out,<-lB];exact js _ _ _ _ _ R.out z.out.2.2.2⟩
   case measure=>simp[intOf];omega
  ·obtain rfl:k=len:=by omega
   obtain⟨F,G,u⟩:=h.out.slice;rw[m.out]at u;subst u;have q:=av ((h.out.1.block (w.heap.size) (by omega)).trans K.out);have d0:ai wr w.heap.size 0 (ae 0):=aD q.out 0;have d1:ai wr w.heap.size 1 (ae 0):=aD q.out 1;have d2:ai wr w.heap.size 2 (ag ⟨#[]⟩):=aD q.out 2;have d3:ai wr w.heap.size 3 (af none 0 0):=aD q.out 3;have f0:=λE=>dt q.out E;have t:w.heap.size<wr.heap.size:=by omega
   have aA:=λ(aM w':ah) M D a1=>av (eI.tells (w:=w) (ys:=([bQ px (n+4)])++p.map (eQ n)) (w':=w') (h.out.later (eE _) ad (w1:=aM) M) (by omega) (by have j:=R.out;rw[bI (by rw[am.out];omega)]at j;exact j) D a1);clear q K;go_wp2_with (go_at_call 150;refine(fY _ _ _ _).mono ?_;rintro A O ⟨rfl,ar⟩;have i:=av (show ap wr O by rw[ar];go_grown);clear ar;replace d0:=(aC i.out _ _ t).trans d0;replace d1:=(aC i.out _ _ t).trans d1;replace d2:=(aC i.out _ _ t).trans d2;replace d3:=(aC i.out _ _ t).trans d3;replace f0:=λE=>(ib i.out _ E t).trans (f0 E));refine aE (v:=.agg #[ae 4,ae 0,ag ⟨#[]⟩,af F (k+1) G]) (by simp[results,results121,go_sem,d0,d1,d2,d3]) rfl ?_;rw[aS.out];obtain⟨a8,a9,X,P⟩:=(aA O (dl O (w.heap.size) 0 (ae 4) (ae 0) (ag ⟨#[]⟩) (af F (k+1) G)) i.out (AI (by omega) (by omega) (aH _ _)) (cT (bK _ _ _ _).symm)).out (dW (I.out.trans (i.out.mono I.out.size)) (by omega));rw[m.out]at X P;injection X with aP ba C;subst aP C;exact P
theorem uR(n:Nat)(p:List (Bh (n+1)))(a:ay)(pc:Nat)(B:Nat)(w:ah)(g:iX (n+1) B w a p)(d:p.length<=7)(e:∀b∈p,b.2.2.length<=6/\∀c∈b.2.2,c.2.2.length<=8)(f:B<=w.heap.size):au 121 #[af a p.length pc] w (iV B (n+6) (cY n p) w):=
 tO n p p.length rfl d e a pc B w g f _ rfl
def zT(N:Nat):Tm (N+1):=((0,0,.empty),(none,0),[])
def oJ(n:Nat)(p:List (Bh (n+1))):Int:=if lm (n+1) p then bL (n+6) (cY n p)else 5
def Jw(n:Nat)(p:List (Bh (n+1))):Tm (n+6):=if oJ n p=0 then cY n p else zT (n+5)
def J4(B n:Nat)(p:List (Bh (n+1)))(w:ah)(e:Ending)(w':ah):Prop:=
 ∃a:Tm (n+6),e=aw (ax #[dG (n+6) a,ae (oJ n p)])/\Hid (ap w w'/\In w'.heap.size w' (n+6) a/\cG (λb=>b<B\/w.heap.size<=b) (n+6) a/\aK (n+6) a (n+6) (Jw n p)=true)
theorem mh(N B:Nat)(w:ah):In B w (N+1) (zT N):=⟨⟨by simp[zT,dp],by simp[zT,dp],aN _,by simp[zT],by simp[zT]⟩,ak rfl⟩
theorem GQ{p:List (Bh (n+1))}{k:Int}(b:ap w w')(c:k=oJ n p)(a:¬k=0):J4 B n p w (aw (ax #[aB 0 0 .empty none 0 0,ae k])) w':=by
 subst c;refine⟨zT (n+5),rfl,b,mh _ _ _,ak rfl,?_⟩;unfold Jw;rw[if_neg a];exact mA (mh _ 0 w)
theorem yR{p:List (Bh n)}(a:lm n p=true):p.length<=7/\∀b∈p,b.2.2.length<=6/\∀c∈b.2.2,c.2.2.length<=8:=by
 simp only[lm,xY,vD,aT,cV,cZ]at a;refine⟨by omega,λb d=>⟨by have:=(a.2 b d).1.2;omega,λc e=>by have:=((a.2 b d).2 c e).1;omega⟩⟩
theorem rY(w:ah)(v0 v1 v2 v3:az)(t:TypeId)(a:Below (w.alloc (.cells #[v0,v1,v2,v3] t)).heap.size (w.alloc (.cells #[v0,v1,v2,v3] t)) w'):w'.heap[w.heap.size]?=some (.cells #[v0,v1,v2,v3] t):=
 (a.block _ (by simp)).trans (aL w _)
theorem Mi(n:Nat)(p:List (Bh (n+1)))(a:ay)(pc:Nat)(aq:p.length<=pc)(ad:pc<=maxLen)(B:Nat)(w:ah)(L:iX (n+1) B w a p)(A:B<=w.heap.size)(ab:lm (n+1) p=true->(aI (n+6) (cY n p)).length<=2097152):au 82 #[af a p.length pc] w (J4 B n p w):=by
 have Q:Hid (∀f,ap w f->au 81 #[af a p.length pc] f λk m=>k=aw (.bool (lm (n+1) p))/\ap f m):=
  λf s=>qz n p p.length rfl a pc B f (L.below (s.mono A)) (by unfold maxLen at ad;omega) (aG A s.size)
 have G:Hid (lm (n+1) p=true->∀f,ap w f->au 121 #[af a p.length pc] f (iV B (n+6) (cY n p) f)):=
  λs f z=>uR n p a pc B f (L.below (z.mono A)) (yR s).1 (yR s).2 (aG A z.size)
 have x:Hid (oJ n p=if lm (n+1) p then bL (n+6) (cY n p)else 5):=rfl;have R:=av ab;have T:Hid (Jw n p=if oJ n p=0 then cY n p else zT (n+5)):=rfl;clear L ab aq ad;generalize p.length=len at*;generalize lm (n+1) p=aH at*;go_enter func82,ntmps82;go_wp2_with fail;refine(Q _ bf).mono ?_;rintro k f ⟨rfl,J⟩;have h:=av (rY w _ _ _ _ _ J);have r:Hid (ap w f):=bf.trans (J.mono (by simp));have ar:w.heap.size<f.heap.size:=(aS.1 h).1;clear J Q;cases aH
 ·have d0:ai f w.heap.size 0 (ae 0):=aD h 0;have d1:ai f w.heap.size 1 (ae 0):=aD h 1;have d2:ai f w.heap.size 2 (ag ⟨#[]⟩):=aD h 2;have d3:ai f w.heap.size 3 (af none 0 0):=aD h 3;have f0:=λu=>dt h u;clear G h;go_wp2_with fail;exact aE (v:=ax #[aB 0 0 .empty none 0 0,ae 5]) (by simp[results,results82,go_sem,d0,d1,d2,d3];rfl) rfl (GQ (dW r (aA _)) (by rw[x.out];rfl) (by omega))
 ·have S:=av (G rfl f r);go_wp2_with fail;refine S.mono ?_;rintro k g ⟨d,rfl,j⟩;have M:Hid (ap w g):=r.trans (j.1.mono r.size);have Y:dG (n+6) d=aB d.1.1 d.1.2.1 d.1.2.2 d.2.1.1 d.2.2.length d.2.1.2:=rfl;have O:Hid (∀e,ap g e->au 53 #[aB d.1.1 d.1.2.1 d.1.2.2 d.2.1.1 d.2.2.length d.2.1.2] e λk m=>k=aw (ae (oJ n p))/\ap e m):=λe t=>by
   have:=dX (n+6) d g.heap.size e (j.2.1.below t) t.size (by rw[lq _ _ _ _ j.out.2.2.2];exact R (by simp));rw[bP j.out.2.2.2]at this;rw[x.out];exact this
  have F:Hid (oJ n p=0->∀e,ap g e->au 91 #[aB d.1.1 d.1.2.1 d.1.2.2 d.2.1.1 d.2.2.length d.2.1.2] e λk m=>∃c:Tm (n+6),k=aw (dG (n+6) c)/\Hid (ap e m/\In m.heap.size m (n+6) c/\cG (λaF=>e.heap.size<=aF) (n+6) c/\aK (n+6) c (n+6) d=true)):=λan e t=>
   iD (n+6) d g.heap.size e (j.2.1.below t) t.size (aZ.2 (by have z:bL (n+6) (cY n p)=0:=(by simpa [x.out]using an);rw[j8 _ _ _ _ j.out.2.2.2];exact(bU.1 z).1))
  have al:=av j.2.2.2;have H:=av ((j.1.block _ ar).trans h);have az:w.heap.size<g.heap.size:=(aS.1 H).1;rw[Y];clear G S h r j Y R;generalize aa:oJ n p=C at*;have P:=av aa;clear aa x;go_wp2_with fail;refine(O _ bf).mono ?_;rintro k e ⟨rfl,K⟩;have E:Hid (ap g e):=bf.trans (K.mono (by simp));have D:Hid (ap w e):=M.trans (E.mono M.size);have y:=av (rY g _ _ _ _ _ K);have i:=av ((E.block _ az).trans H);have aC:w.heap.size<e.heap.size:=(aS.1 i).1;have U:ai e g.heap.size 0 (ae d.1.1):=aD y 0;have V:ai e g.heap.size 1 (ae d.1.2.1):=aD y 1;have W:ai e g.heap.size 2 (ag d.1.2.2):=aD y 2;have X:ai e g.heap.size 3 (af d.2.1.1 d.2.2.length d.2.1.2):=aD y 3;clear K O H;by_cases I:C=0
  ·subst I;have aj:=av (F rfl e E);clear F;go_wp2_with fail;refine aj.mono ?_;rintro k q ⟨c,rfl,l⟩;have o:=av ((l.1.block _ aC).trans i);have N:Hid (ap w q):=D.trans (l.1.mono D.size);have d0:ai q w.heap.size 0 (ae 0):=aD o 0;have d1:ai q w.heap.size 1 (ae 0):=aD o 1;have d2:ai q w.heap.size 2 (ag ⟨#[]⟩):=aD o 2;have d3:ai q w.heap.size 3 (af none 0 0):=aD o 3;have f0:=λu=>dt o u;have Z:dG (n+6) c=aB c.1.1 c.1.2.1 c.1.2.2 c.2.1.1 c.2.2.length c.2.1.2:=rfl;rw[Z];have ak:Hid (J4 B n p w (aw (ax #[aB c.1.1 c.1.2.1 c.1.2.2 c.2.1.1 c.2.2.length c.2.1.2,ae 0])) (dl q w.heap.size 0 (ae c.1.1) (ae c.1.2.1) (ag c.1.2.2) (af c.2.1.1 c.2.2.length c.2.1.2))):=by
    refine⟨c,by rw[P.out];rfl,dW N (aA _),?_,l.2.2.1.mono λb ao=>am (by omega),?_⟩
    ·rw[bK];exact In.off (λb ao=>bz (by omega) _ _ _ _) l.2.2.1 l.2.1
    ·rw[show Jw n p=cY n p from by simpa using T.out];exact bW _ _ _ _ _ _ l.2.2.2 al
   clear o i l N U V W X Z T;go_wp2_with fail;exact aE (v:=ax #[aB c.1.1 c.1.2.1 c.1.2.2 c.2.1.1 c.2.2.length c.2.1.2,ae 0]) (by simp[results,results82,go_sem,d0,d1,d2,d3]) rfl ak
  ·have d0:ai e w.heap.size 0 (ae 0):=aD i 0;have d1:ai e w.heap.size 1 (ae 0):=aD i 1;have d2:ai e w.heap.size 2 (ag ⟨#[]⟩):=aD i 2;have d3:ai e w.heap.size 3 (af none 0 0):=aD i 3;have f0:=λu=>dt i u;have aJ:(C !=0)=true:=by simpa using I
   clear i F U V W X;go_wp2_with fail;exact aE (v:=ax #[aB 0 0 .empty none 0 0,ae C]) (by simp[results,results82,go_sem,d0,d1,d2,d3];rfl) rfl (GQ (dW D (aA _)) P.symm I)
theorem eI.ownAt{xs:List (Tm N)}(a:eI N B base xs v w0 wr)(c:xs.length=k)(b:ap wr W):W.ownsRow base 54 4 v k (xs.flatMap (kZ N)):=by
 subst c;exact dV a.2.1 b
theorem eI.appAt{xs:List (Tm N)}(d:eI N B base xs v w0 wr)(n:xs.length=k)(f:B<=base)(l:base<=wr.heap.size)(e:ap wr W)(a:Tm N)(i:In W.heap.size W N a)(h:cG (λb=>b<B\/wr.heap.size<=b) N a)(o:w4.ownsRow base 54 4 (af (some ⟨g,0,none⟩) (k+1) c) (k+1) (xs.flatMap (kZ N)++kZ N a))(m:W.grownBy w4 v.ownBlock)(j:v.ownBlock=some g\/g=W.heap.size):eI N B base (xs++ [a]) (af (some ⟨g,0,none⟩) (k+1) c) w0 w4:=by
 subst n;exact fE.step (eE N) d f l e a i h o m j
theorem sx(a:ah)(o:Obj)(b:g=a.heap.size):(a.alloc o).drew.heap[g]?=some o:=by
 subst b;exact aL a o
theorem yH(a:ah)(o:Obj)(b:g=a.heap.size):(a.alloc o).heap[g]?=some o:=by
 subst b;exact aL a o
def PL(b:Nat)(name:aq)(a:Wd)(mv:az):cR:=⟨b,1,[ag name],[ae a.1,ae a.2,mv],195⟩
def kw(Mh:aX)(ma:ay)(vs:List Wd)(a:Nat)(w:ah):Prop:=
 (ma=none/\vs=[]/\a=0)\/∃c d b,ma=some ⟨c,d,none⟩/\¬Mh c/\w.heap[c]?=some (.cells b 184 (0,0))/\vs.length<=a/\a<=maxLen/\d+a*2<=b.size/\(b.toList.drop d).take (vs.length*2)=bA vs
def kN(N:Nat)(ws:List Wd)(nm:bm)(room:Int)(b:List Wd)(a:List (Tm N)):Prop:=
 gX ws nm N b a/\(b.flatMap (pT ws N)).Nodup/\(∀c∈a,bL N c=0/\aY N c=true)/\(a.map (sz N)).sum<=(ws.length:Int)/\(ws.length:Int)<=room/\0<=room/\room<=1000/\nm.Nodup
structure cW (base pb:Nat) (name:aq) (room:Int) (N:Nat) (s:Tm N) (ms:List (Tm N)) (xs:List (Wd×Tm N)) (nk:Nat) (M:aX) (w:ah) (ws:List Wd) (nm:bm) (sv:Wd) (vs:List Wd) (ma:ay) (mc:Nat) (Mh:aX):Prop where
 heap:ed base (PL pb name sv (af ma vs.length mc)) room ws nm Mh w
 mail:kw Mh ma vs mc w
 has:kN N ws nm room (sv::vs++xs.map (·.1)) (s::ms++xs.map (·.2))
 len:vs.length=ms.length
 names:nm.length<=nk
 inM:∀b,Mh b->M b
 mailM:∀a,ma=some a->M a.block
theorem ed.box{b:cR}{M:aX}(e:ed base b room ws nm M w):∃tv lv mv,HB b room tv lv mv w/\∃h i,tv=af h ws.length i:=by
 obtain⟨tv,lv,mv,f,g,_⟩:=e;refine⟨tv,lv,mv,f,?_⟩;rcases g.2 with⟨a,d⟩|⟨k,c,j,a,_⟩
 ·exact⟨none,0,by rw[a,d]⟩
 ·exact⟨_,c,a⟩
theorem PL.cells{a:Nat}{name:aq}{b:Wd}{mv:az}{room:Int}{tv lv mp:az}{w:ah}(d:HB (PL a name b mv) room tv lv mp w):w.cell? ⟨a,0,none⟩=some (ag name)/\w.cell? ⟨a,5,none⟩=some (ae b.1)/\w.cell? ⟨a,5+1,none⟩=some (ae b.2)/\w.cell? ⟨a,7,none⟩=some mv/\(∀j,w.frozen? ⟨a,j,none⟩=false)/\a<w.heap.size:=by
 have c:w.heap[a]?=some (.cells #[ag name,ae room,tv,lv,mp,ae b.1,ae b.2,mv] 195):=d.2;refine⟨?_,?_,?_,?_,λj=>?_,(aS.1 c).1⟩
 all_goals simp[World.cell?,World.frozen?,c]
def nT(N:Nat)(x:Tm N)(w:ah)(e:Ending)(w':ah):Prop:=∃y:Tm N,e=aw (dG N y)/\Hid (ap w w'/\In w'.heap.size w' N y/\cG (λq=>w.heap.size<=q) N y/\aK N y N x=true)
theorem Jf(P N:Nat)(x:Tm (N+1))(v:Wd)(w:ah)(K:Hid (∀w1,ap w w1->au 163 #[.pointer (some ⟨P,1,none⟩),.agg #[ae v.1,ae v.2]] w1 λe w'=>∃y:Tm (N+1),e=aw (ax #[aB y.1.1 y.1.2.1 y.1.2.2 y.2.1.1 y.2.2.length y.2.1.2,ae 0])/\Hid (ap w1 w'/\In w'.heap.size w' (N+1) y/\cG (λq=>w1.heap.size<=q) (N+1) y/\aK (N+1) y (N+1) x=true))):au 134 #[aF P,.agg #[ae v.1,ae v.2]] w (nT (N+1) x w):=by
 go_enter func134,ntmps134;go_wp2_with fail;have B:=av (ld w (.cells #[ae v.1,ae v.2] 184) (.cells #[ae 0,ae 0,ag ⟨#[]⟩,af none 0 0] 54));have f:Hid (ap w ((w.alloc (.cells #[ae v.1,ae v.2] 184)).alloc (.cells #[ae 0,ae 0,ag ⟨#[]⟩,af none 0 0] 54))/\((w.alloc (.cells #[ae v.1,ae v.2] 184)).alloc (.cells #[ae 0,ae 0,ag ⟨#[]⟩,af none 0 0] 54)).heap.size=w.heap.size+1+1):=⟨by go_grown,by simp⟩;generalize M:(w.alloc _).alloc _=a;rw[M]at B f;clear M;have T:a.heap.size=w.heap.size+1+1:=f.2;have p:Hid (∀w',ap a w'->ai w' w.heap.size 0 (ae v.1)/\ai w' w.heap.size 1 (ae v.2)):=λw' S=>by
  have L:=(S.block w.heap.size (by omega)).trans B.1;exact⟨aD L 0,aD L 1⟩
 obtain⟨an,ao⟩:=p.out a (aH _ _);have z:Hid (ap a a.drew):=(aH _ _).drew;have A:Hid (ap a (a.alloc (.cells #[ae 0,ae 0,ag ⟨#[]⟩,af none 0 0] 54)).drew):=(show Below _ _ _ by go_grown);have F:Hid ((a.alloc (.cells #[ae 0,ae 0,ag ⟨#[]⟩,af none 0 0] 54)).drew.heap[a.heap.size]?=some (.cells #[ae 0,ae 0,ag ⟨#[]⟩,af none 0 0] 54)/\(a.alloc (.cells #[ae 0,ae 0,ag ⟨#[]⟩,af none 0 0] 54)).drew.heap.size=a.heap.size+1):=⟨sx a _ rfl,by simp⟩;clear T
 go_region_held3 (λw'=>w'.cell? ⟨w.heap.size,0,none⟩=some (ae v.1)/\w'.cell? ⟨w.heap.size,1,none⟩=some (ae v.2)) (first|(go_keep;done)|with_reducible exact p _ z|with_reducible exact p _ A|exact p _ h|exact E _|exact Q _ _ _ _|exact R _ _ _ _ _)
  ((first
   | (go_at_call 163;refine(K _ (f.1.trans (z.mono f.1.size))).mono ?_;rintro e w1 ⟨y,rfl,l⟩;have h:=av (z.trans (l.1.mono z.size));have E:Hid (∀o:Obj,(w1.alloc o).cell? ⟨w.heap.size,0,none⟩=some (ae v.1)/\(w1.alloc o).cell? ⟨w.heap.size,1,none⟩=some (ae v.2)):=λo=>p _ (h.trans (bf.mono h.size));have R:Hid (∀(o:Obj)(m b c n:az),(dl (w1.alloc o) w1.heap.size 0 m b c n).cell? ⟨w.heap.size,0,none⟩=some (ae v.1)/\(dl (w1.alloc o) w1.heap.size 0 m b c n).cell? ⟨w.heap.size,1,none⟩=some (ae v.2)):=λo m b c n=>by have am:=h.size;have D:=f.2;exact⟨(bN (bz (by omega) m b c n) 0).trans (E o).1,(bN (bz (by omega) m b c n) 1).trans (E o).2⟩)
   | (go_at_call 163;refine(K _ (f.1.trans (A.mono f.1.size))).mono ?_;rintro e w1 ⟨y,rfl,l⟩;have h:=av (A.trans (l.1.mono A.size));have r:=av ((l.1.block _ (by have:=F.2;omega)).trans F.1);have ab:ai w1 a.heap.size 0 (ae 0):=aD r 0;have ad:ai w1 a.heap.size 1 (ae 0):=aD r 1;have aj:ai w1 a.heap.size 2 (ag ⟨#[]⟩):=aD r 2;have ak:ai w1 a.heap.size 3 (af none 0 0):=aD r 3;have al:=λu=>dt r u;have Q:Hid (∀m b c n:az,(dl w1 a.heap.size 0 m b c n).cell? ⟨w.heap.size,0,none⟩=some (ae v.1)/\(dl w1 a.heap.size 0 m b c n).cell? ⟨w.heap.size,1,none⟩=some (ae v.2)):=λm b c n=>⟨(bN (bz (by have:=f.2;omega) m b c n) 0).trans (p _ h).1,(bN (bz (by have:=f.2;omega) m b c n) 1).trans (p _ h).2⟩)))
 ·have D:=f.2;have i:Hid ((w1.alloc (.cells #[ae y.1.1,ae y.1.2.1,ag y.1.2.2,af y.2.1.1 y.2.2.length y.2.1.2] 54)).heap[w.heap.size+1]?=some (.cells #[ae 0,ae 0,ag ⟨#[]⟩,af none 0 0] 54)):=(bf.block _ (by have:=h.size;omega)).trans ((h.block _ (by omega)).trans B.2);have k:Hid ((w1.alloc (.cells #[ae y.1.1,ae y.1.2.1,ag y.1.2.2,af y.2.1.1 y.2.2.length y.2.1.2] 54)).heap[w1.heap.size]?=some (.cells #[ae y.1.1,ae y.1.2.1,ag y.1.2.2,af y.2.1.1 y.2.2.length y.2.1.2] 54)):=aL _ _;have j:Hid (ap w (w1.alloc (.cells #[ae y.1.1,ae y.1.2.1,ag y.1.2.2,af y.2.1.1 y.2.2.length y.2.1.2] 54))/\In (w1.alloc (.cells #[ae y.1.1,ae y.1.2.1,ag y.1.2.2,af y.2.1.1 y.2.2.length y.2.1.2] 54)).heap.size (w1.alloc (.cells #[ae y.1.1,ae y.1.2.1,ag y.1.2.2,af y.2.1.1 y.2.2.length y.2.1.2] 54)) (N+1) y/\cG (λq=>w.heap.size+2<=q) (N+1) y):=⟨(f.1.trans (h.mono f.1.size)).trans (bf.mono (f.1.trans (h.mono f.1.size)).size),(l.2.1.below bf).mono (by simp),l.2.2.1.mono λq (C:a.heap.size<=q)=>by omega⟩;have s:Hid (∃d,d=(w1.alloc (.cells #[ae y.1.1,ae y.1.2.1,ag y.1.2.2,af y.2.1.1 y.2.2.length y.2.1.2] 54))):=⟨_,rfl⟩;obtain⟨d,t⟩:=s.out;rw[<-t]at i k j ⊢;clear t s D;have G:d.cell? ⟨w.heap.size+1,0,none⟩=some (ae 0):=aD i 0;have H:d.cell? ⟨w.heap.size+1,1,none⟩=some (ae 0):=aD i 1;have I:d.cell? ⟨w.heap.size+1,2,none⟩=some (ag ⟨#[]⟩):=aD i 2;have J:d.cell? ⟨w.heap.size+1,3,none⟩=some (af none 0 0):=aD i 3;have Z:=λu=>dt i u;have V:ai d w1.heap.size 0 (ae y.1.1):=aD k 0;have W:ai d w1.heap.size 1 (ae y.1.2.1):=aD k 1;have X:ai d w1.heap.size 2 (ag y.1.2.2):=aD k 2;have Y:ai d w1.heap.size 3 (af y.2.1.1 y.2.2.length y.2.1.2):=aD k 3;go_wp2_with fail;refine aE (v:=aB y.1.1 y.1.2.1 y.1.2.2 y.2.1.1 y.2.2.length y.2.1.2) (by simp[results,results134,go_sem,G,H,I,J]) rfl ?_;refine⟨y,rfl,dW j.1 (by omega),?_,j.2.2.mono λq C=>by omega,l.2.2.2⟩;have e:=In.off (w':=dl d (w.heap.size+1) 0 (ae y.1.1) (ae y.1.2.1) (ag y.1.2.2) (af y.2.1.1 y.2.2.length y.2.1.2)) (λb (O:w.heap.size+2<=b)=>bz (by omega) _ _ _ _) j.2.2 j.2.1;rw[<-bK (w:=d) (g:=w.heap.size+1) (o:=0) (ae y.1.1) (ae y.1.2.1) (ag y.1.2.2) (af y.2.1.1 y.2.2.length y.2.1.2)]at e;exact e
 ·have D:=f.2;have U:=F.2;have i:Hid ((dl w1 a.heap.size 0 (ae y.1.1) (ae y.1.2.1) (ag y.1.2.2) (af y.2.1.1 y.2.2.length y.2.1.2)).heap[w.heap.size+1]?=some (.cells #[ae 0,ae 0,ag ⟨#[]⟩,af none 0 0] 54)):=(bz (by omega) _ _ _ _).trans ((h.block _ (by omega)).trans B.2)
  have k:Hid ((dl w1 a.heap.size 0 (ae y.1.1) (ae y.1.2.1) (ag y.1.2.2) (af y.2.1.1 y.2.2.length y.2.1.2)).heap[a.heap.size]?=some (.cells #[ae y.1.1,ae y.1.2.1,ag y.1.2.2,af y.2.1.1 y.2.2.length y.2.1.2] 54)):=(by
   show _=_
   simp[dl,World.setCell,bS,r.out])
  have j:Hid (ap w (dl w1 a.heap.size 0 (ae y.1.1) (ae y.1.2.1) (ag y.1.2.2) (af y.2.1.1 y.2.2.length y.2.1.2))/\In (dl w1 a.heap.size 0 (ae y.1.1) (ae y.1.2.1) (ag y.1.2.2) (af y.2.1.1 y.2.2.length y.2.1.2)).heap.size (dl w1 a.heap.size 0 (ae y.1.1) (ae y.1.2.1) (ag y.1.2.2) (af y.2.1.1 y.2.2.length y.2.1.2)) (N+1) y/\cG (λq=>w.heap.size+2<=q) (N+1) y):=by
   refine⟨dW (f.1.trans (h.mono f.1.size)) (by omega),?_,l.2.2.1.mono λq C=>?_⟩
   ·rw[bK];exact In.off (λb (O:(a.alloc (.cells #[ae 0,ae 0,ag ⟨#[]⟩,af none 0 0] 54)).drew.heap.size<=b)=>bz (by omega) _ _ _ _) l.2.2.1 l.2.1
   ·have aa:(a.alloc (.cells #[ae 0,ae 0,ag ⟨#[]⟩,af none 0 0] 54)).drew.heap.size<=q:=C;omega
  have s:Hid (∃d,d=(dl w1 a.heap.size 0 (ae y.1.1) (ae y.1.2.1) (ag y.1.2.2) (af y.2.1.1 y.2.2.length y.2.1.2))):=⟨_,rfl⟩;obtain⟨d,t⟩:=s.out;change Exit.then _ _ Exit.normal _ (dl w1 a.heap.size 0 (ae y.1.1) (ae y.1.2.1) (ag y.1.2.2) (af y.2.1.1 y.2.2.length y.2.1.2));rw[<-t]at i k j ⊢;clear t s D U;have G:d.cell? ⟨w.heap.size+1,0,none⟩=some (ae 0):=aD i 0;have H:d.cell? ⟨w.heap.size+1,1,none⟩=some (ae 0):=aD i 1;have I:d.cell? ⟨w.heap.size+1,2,none⟩=some (ag ⟨#[]⟩):=aD i 2;have J:d.cell? ⟨w.heap.size+1,3,none⟩=some (af none 0 0):=aD i 3;have Z:=λu=>dt i u;have V:ai d a.heap.size 0 (ae y.1.1):=aD k 0;have W:ai d a.heap.size 1 (ae y.1.2.1):=aD k 1;have X:ai d a.heap.size 2 (ag y.1.2.2):=aD k 2;have Y:ai d a.heap.size 3 (af y.2.1.1 y.2.2.length y.2.1.2):=aD k 3;go_wp2_with fail;refine aE (v:=aB y.1.1 y.1.2.1 y.1.2.2 y.2.1.1 y.2.2.length y.2.1.2) (by simp[results,results134,go_sem,G,H,I,J]) rfl ?_;refine⟨y,rfl,dW j.1 (by omega),?_,j.2.2.mono λq C=>by omega,l.2.2.2⟩;have e:=In.off (w':=dl d (w.heap.size+1) 0 (ae y.1.1) (ae y.1.2.1) (ag y.1.2.2) (af y.2.1.1 y.2.2.length y.2.1.2)) (λb (O:w.heap.size+2<=b)=>bz (by omega) _ _ _ _) j.2.2 j.2.1;rw[<-bK (w:=d) (g:=w.heap.size+1) (o:=0) (ae y.1.1) (ae y.1.2.1) (ag y.1.2.2) (af y.2.1.1 y.2.2.length y.2.1.2)]at e;exact e
theorem pI{x:Tm n}(a:bL n x=0):aM ⟨n,x⟩:=aZ.2 (bU.1 a).1
section
variable {base pb:Nat} {name:aq} {room:Int} {N:Nat} {s:Tm (N+1)} {ms:List (Tm (N+1))} {xs:List (Wd×Tm (N+1))} {nk:Nat} {M:aX} {w:ah} {ws:List Wd} {nm:bm} {sv:Wd} {vs:List Wd} {ma:ay} {mc:Nat} {Mh:aX}
theorem cW.later(a:cW base pb name room (N+1) s ms xs nk M w ws nm sv vs ma mc Mh){w1:ah}(c:ap w w1):cW base pb name room (N+1) s ms xs nk M w1 ws nm sv vs ma mc Mh:=by
 refine⟨(a.heap.later c).mono λb c=>c.1,?_,a.has,a.len,a.names,a.inM,a.mailM⟩;rcases a.mail with g|⟨e,k,f,h,i,d,j⟩
 ·exact ak g
 ·exact am ⟨e,k,f,h,i,(c.block e (aS.1 d).1).trans d,j⟩
theorem cW.read(a:cW base pb name room (N+1) s ms xs nk M w ws nm sv vs ma mc Mh)(k:nk<=95000){i:Nat}{v:Wd}{x:Tm (N+1)}(e:(sv::vs++xs.map (·.1))[i]?=some v)(c:(s::ms++xs.map (·.2))[i]?=some x):au 134 #[aF pb,.agg #[ae v.1,ae v.2]] w (nT (N+1) x w):=by
 obtain⟨f,l,g,m,n,o,p,q⟩:=a.has;have b:=g x (aU c);have j:=a.names;exact Jf pb N x v w λh d=>KV (N+1) x v base (PL pb name sv (af ma vs.length mc)) room ws nm Mh h ((a.later d).heap) (f.2 i v x e c) (pI b.1) b.2 (by omega) (by omega)
end
theorem FD(e N:Nat)(x:Tm (N+1))(v:Wd)(w:ah)(y:e<w.heap.size)(m:w.cell? ⟨e,5,none⟩=some (ae v.1))(n:w.cell? ⟨e,5+1,none⟩=some (ae v.2))(l:Hid (∀w1,ap w w1->au 134 #[aF e,.agg #[ae v.1,ae v.2]] w1 (nT (N+1) x w1))):au 93 #[aF e] w (nT (N+1) x w):=by
 go_enter func93,ntmps93;go_wp2_with fail;refine(l _ bf).mono ?_;rintro f w1 ⟨a,rfl,d⟩;rw[show dG (N+1) a=.agg #[ae a.1.1,ae a.1.2.1,ag a.1.2.2,af a.2.1.1 a.2.2.length a.2.1.2]from rfl];have c:=av (rY w _ _ _ _ _ d.1);have k:Hid (ap w w1):=bf.trans (d.1.mono (by simp));have q:w1.cell? ⟨w.heap.size,0,none⟩=some (ae 0):=aD c 0;have r:w1.cell? ⟨w.heap.size,1,none⟩=some (ae 0):=aD c 1;have s:w1.cell? ⟨w.heap.size,2,none⟩=some (ag ⟨#[]⟩):=aD c 2;have t:w1.cell? ⟨w.heap.size,3,none⟩=some (af none 0 0):=aD c 3;have z:=λp=>dt c p;clear m n;go_wp2_with fail;refine aE (v:=.agg #[ae a.1.1,ae a.1.2.1,ag a.1.2.2,af a.2.1.1 a.2.2.length a.2.1.2]) (by simp[results,results93,go_sem,q,r,s,t]) rfl ?_;have i:cG (λh=>w.heap.size+1<=h) (N+1) a:=d.2.2.1.mono λh j=>by simpa using j
 refine⟨a,rfl,dW k (aA _),?_,i.mono λh j=>by omega,d.2.2.2⟩;have f:=In.off (w':=dl w1 w.heap.size 0 (ae a.1.1) (ae a.1.2.1) (ag a.1.2.2) (af a.2.1.1 a.2.2.length a.2.1.2)) (λb (u:w.heap.size+1<=b)=>bz (by omega) _ _ _ _) i d.2.1;rw[<-bK (w:=w1) (g:=w.heap.size) (o:=0) (ae a.1.1) (ae a.1.2.1) (ag a.1.2.2) (af a.2.1.1 a.2.2.length a.2.1.2)]at f;exact f
theorem kw.word(b:kw Mh ma vs d w){i:Nat}{v:Wd}(c:vs[i]?=some v):∃g a,ma=some ⟨g,a,none⟩/\g<w.heap.size/\w.cell? ⟨g,a+i*2,none⟩=some (ae v.1)/\w.cell? ⟨g,a+i*2+1,none⟩=some (ae v.2):=by
 rcases b with⟨_,j,_⟩|⟨g,a,p,m,_,f,q,_,r,n⟩
 ·rw[j]at c;simp at c
 ·have s:=(bj.1 c).1;have h:∀(l:List Wd)(i:Nat)(v:Wd),l[i]?=some v->(bA l)[i*2]?=some (ae v.1)/\(bA l)[i*2+1]?=some (ae v.2):=by
   intro l
   induction l with
   | nil=>intro i v b;simp at b
   | cons o l ih=>
    intro i v b;cases i with
    | zero=>simp at b;subst b;simp[bA,qG]
    | succ i=>
     have:=ih i v (by simpa using b);simp only[bA,bM,qG]at this ⊢;rw[show (i+1)*2=i*2+2 by omega,show i*2+2+1=(i*2+1)+2 by omega];simpa using this
  have e:∀k,k<vs.length*2->w.cell? ⟨g,a+k,none⟩=(bA vs)[k]? :=λk e=>by
   rw[<-n,jz,if_pos e,jy,nF];simp[World.cell?,f]
  refine⟨g,a,m,(aS.1 f).1,?_,?_⟩
  ·rw[e (i*2) (by omega)];exact(h vs i v c).1
  ·rw[show a+i*2+1=a+(i*2+1) by omega,e (i*2+1) (by omega)];exact(h vs i v c).2
def FX(N:Nat)(ms:List (Tm N))(w:ah)(e:Ending)(w':ah):Prop:=∃(ys:List (Tm N))(L:Nat)(a:ay)(c:Nat),e=aw (af a L c)/\Hid (ys.length=L/\eI N 0 w.heap.size ys (af a L c) w w'/\aO (λa b=>aK N a N b) ys ms=true)
theorem IG(n N:Nat)(ms:List (Tm (N+1)))(vs:List Wd)(L:Nat)(ma:ay)(Z:Nat)(w:ah)(S:Hid (vs.length=L))(D:Hid (ms.length=L))(ad:L<=1000)(_hpw:n<w.heap.size)(aa:w.cell? ⟨n,7,none⟩=some (af ma L Z))(Q:Hid (∀w1,ap w w1->∀(i:Nat)(v:Wd),vs[i]?=some v->∃g s,ma=some ⟨g,s,none⟩/\g<w.heap.size/\w1.cell? ⟨g,s+i*2,none⟩=some (ae v.1)/\w1.cell? ⟨g,s+i*2+1,none⟩=some (ae v.2)))(M:Hid (∀w1,ap w w1->∀(i:Nat)(v:Wd)(x:Tm (N+1)),vs[i]?=some v->ms[i]?=some x->au 134 #[aF n,.agg #[ae v.1,ae v.2]] w1 (nT (N+1) x w1))):au 94 #[aF n] w (FX (N+1) ms w):=by
 obtain⟨Y,hit,I,J,K⟩:=bT gN;have o:=av (⟨hit,I,J,K⟩:_/\_/\_/\_);clear hit I J K;go_enter func94,ntmps94;go_wp2_with fail;go_loopw [3,11] (λv i wr=>∃(k:Nat)(h:ay)(c:Nat)(j:List (Tm (N+1))),k<=L/\i=ae k/\v=af h k c/\Hid (j.length=k/\eI (N+1) 0 w.heap.size j (af h k c) w wr/\aO (λh b=>aK (N+1) h (N+1) b) j (ms.take k)=true)) (λ_ i _=>L-(intOf i).toNat)
 case atStart=>exact⟨0,none,0,[],by omega,rfl,rfl,rfl,fE.nil _,by simp[aO]⟩
 case round=>
  obtain⟨k,h,c,j,ak,rfl,rfl,e⟩:=hrel;have l:Hid (ap w wr):=e.2.1.1;by_cases G:k<L;rotate_left
  ·obtain rfl:k=L:=by omega
   go_wp2_with fail
   go_ret
   refine⟨j,k,h,c,rfl,e.1,e.2.1,?_⟩;have m:=e.2.2;rw[bI (by rw[D.out];omega)]at m;exact m
  ·obtain⟨v,z⟩:∃v,vs[k]?=some v:=⟨vs[k]'(by rw[S.out];exact G),aV _⟩;obtain⟨x,A⟩:∃x,ms[k]?=some x:=⟨ms[k]'(by rw[D.out];exact G),aV _⟩;have R:=av A;have O:Hid (∀w1,ap w w1->au 134 #[aF n,.agg #[ae v.1,ae v.2]] w1 (nT (N+1) x w1)):=λw1 y=>M w1 y k v x z A;obtain⟨g,s,rfl,ai,d0,d1⟩:=Q wr l k v z;clear z A;have al:(0:Int)<=(k:Int):=by omega
   have an:(k:Int)<(L:Int):=by omega
   have aj:g<wr.heap.size:=by have:=l.size;omega
   go_wp2_with fail;refine(O _ (l.trans (bf.mono l.size))).mono ?_;rintro ab d ⟨a,rfl,p⟩;rw[show dG (N+1) a=.agg #[ae a.1.1,ae a.1.2.1,ag a.1.2.2,af a.2.1.1 a.2.2.length a.2.1.2]from rfl];have u:Hid (ap wr d):=bf.trans (p.1.mono (by simp));have f:Hid (ap wr (d.alloc (.cells #[ae a.1.1,ae a.1.2.1,ag a.1.2.2,af a.2.1.1 a.2.2.length a.2.1.2] 54))/\(d.alloc (.cells #[ae a.1.1,ae a.1.2.1,ag a.1.2.2,af a.2.1.1 a.2.2.length a.2.1.2] 54)).heap.size=d.heap.size+1/\(d.alloc (.cells #[ae a.1.1,ae a.1.2.1,ag a.1.2.2,af a.2.1.1 a.2.2.length a.2.1.2] 54)).heap[d.heap.size]?=some (.cells #[ae a.1.1,ae a.1.2.1,ag a.1.2.2,af a.2.1.1 a.2.2.length a.2.1.2] 54)/\In (d.alloc (.cells #[ae a.1.1,ae a.1.2.1,ag a.1.2.2,af a.2.1.1 a.2.2.length a.2.1.2] 54)).heap.size (d.alloc (.cells #[ae a.1.1,ae a.1.2.1,ag a.1.2.2,af a.2.1.1 a.2.2.length a.2.1.2] 54)) (N+1) a/\cG (λb=>b<0\/wr.heap.size<=b) (N+1) a):=by
    have m:ap d (d.alloc (.cells #[ae a.1.1,ae a.1.2.1,ag a.1.2.2,af a.2.1.1 a.2.2.length a.2.1.2] 54)):=bf;refine⟨u.trans (m.mono u.size),by simp,aL _ _,(p.2.1.below m).mono m.size,p.2.2.1.mono λb y=>am ?_⟩;have:wr.heap.size+1<=b:=by simpa using y
    omega
   have B:=λ(r q:Nat)(w4:ah) X U T=>av (e.2.1.appAt (W:=(d.alloc (.cells #[ae a.1.1,ae a.1.2.1,ag a.1.2.2,af a.2.1.1 a.2.2.length a.2.1.2] 54))) (w4:=w4) (g:=r) (c:=q) e.1 (aN _) l.size f.1 a f.2.2.2.1 f.2.2.2.2 X U T);have C:=av (e.2.1.ownAt e.1 f.1);have ao:w.heap.size<=d.heap.size:=by have:=l.size;have:=u.size;omega
   clear d0 d1;go_wp2_with (at_builtin;refine wpList_append_lies _ rfl _ _ 52 rfl w.heap.size 54 Y _ 4 56 underlying52 o.1 o.2.1 o.2.2.1 o.2.2.2 rfl (by decide) (af h k c) k (j.flatMap (kZ (N+1))) (by simp[Act.eval]) C ⟨d.heap.size,0,none⟩ 1 1 (kZ (N+1) a) (by simp[Act.eval]) rfl (World.news_of_block (cs:= #[ae a.1.1,ae a.1.2.1,ag a.1.2.2,af a.2.1.1 a.2.2.length a.2.1.2]) (t:=54) (fr:=(0,0)) f.2.2.1) (vh _ _) (by decide) (by unfold maxLen;omega) (by omega) (by have:=f.2.1;omega) (d.heap.size+1) f.2.1 ?_;intro r q w4 H F E V;have P:=B r q w4 H F (by rw[f.out.2.1];exact E);clear H F E V B C);go_roundw
   case rel=>
    refine⟨k+1,some ⟨r,0,none⟩,q,j++ [a],by omega,by go_num,rfl,by rw[br,e.out.1];rfl,P,?_⟩;rw[dL,R.out];exact js _ _ _ _ _ e.2.2 p.2.2.2
   case measure=>simp[intOf];omega
section
variable {base pb:Nat} {name:aq} {room:Int} {N:Nat} {s:Tm (N+1)} {ms:List (Tm (N+1))} {xs:List (Wd×Tm (N+1))} {nk:Nat} {M:aX} {w:ah} {ws:List Wd} {nm:bm} {sv:Wd} {vs:List Wd} {ma:ay} {mc:Nat} {Mh:aX}
theorem cW.state(a:cW base pb name room (N+1) s ms xs nk M w ws nm sv vs ma mc Mh)(f:nk<=95000):au 93 #[aF pb] w (nT (N+1) s w):=by
 obtain⟨k,h,j,d,_⟩:=a.heap.box;obtain⟨_,b,c,_,_,g⟩:=PL.cells d;exact FD pb N s sv w g b c λl e=>(a.later e).read f (i:=0) (by simp) (by simp)
theorem cW.mails(a:cW base pb name room (N+1) s ms xs nk M w ws nm sv vs ma mc Mh)(n:nk<=95000)(u:ms.length<=1000):au 94 #[aF pb] w (FX (N+1) ms w):=by
 obtain⟨y,v,x,k,_⟩:=a.heap.box;obtain⟨_,_,_,e,_,o⟩:=PL.cells k;have m:=a.len;refine IG pb N ms vs vs.length ma mc w rfl m.symm (by omega) o e (λt b i r c=>?_) (λt b i r z c p=>?_)
 ·obtain⟨j,q,f,d,g,h⟩:=a.mail.word c;exact⟨j,q,f,d,(aC b _ _ d).trans g,(aC b _ _ d).trans h⟩
 ·have l:=(bj.1 c).1;exact(a.later b).read n (i:=i+1) (by rw[fL,dA,dO l];exact c) (by rw[fL,dA,dO (by omega)];exact p)
end
theorem xK(ty:TypeId)(f:w.ownsRow base 184 2 v n xs)(z:fB w ps xa)(i:ps.length=m)(F:n+m<=200000)(u:base<=w.heap.size):∃a d w',(Builtin.append_ #[187,187] ty #[v,af xa m xc]).run Tryz.prog w=.ok (af a (n+m) d) w'/\w'.ownsRow base 184 2 (af a (n+m) d) (n+m) (xs++bA ps)/\w.grownBy w' v.ownBlock/\((Value.slice a (n+m) d).ownBlock=v.ownBlock\/(Value.slice a (n+m) d).ownBlock=some w.heap.size):=by
 obtain⟨j,hit,A,B,C⟩:=bT lV;have p:∀{w':ah}{g:az}{k:Nat}{E:dI},w'.ownsRow base 184 2 g k E->∃l c,g=af l k c:=λe=>by
  rcases e.2 with⟨rfl,rfl⟩|⟨q,cap,o,rfl,_⟩
  ·exact⟨none,0,rfl⟩
  ·exact⟨_,cap,rfl⟩
 rcases z with rfl|⟨ad,rfl,x⟩
 ·obtain rfl:m=0:=i.symm;obtain⟨b,cap,D,y⟩:∃b cap,v=af b n cap/\n<=cap:=by
   rcases f.2 with⟨rfl,rfl⟩|⟨q,cap,o,rfl,_,_,e,_⟩
   ·exact⟨none,0,rfl,aA _⟩
   ·exact⟨_,cap,rfl,e⟩
  subst D;exact⟨b,cap,w,oH w _ _ ty _ _ j underlying187 underlying187 hit b xa n cap xc y,by simpa [bA]using f,gT _ _,ak rfl⟩
 ·obtain⟨g,w',r,h,s,_,t⟩:=run_append_own_at (P:=Tryz.prog) w base 187 ty 184 j _ 2 16 underlying187 hit A B C rfl (by decide) _ n xs f ad m xc (bA ps) (by rw[cQ,i]) x (rI _) (by unfold maxLen;omega) (by omega) u;obtain⟨a,d,rfl⟩:=p h;exact⟨a,d,w',r,h,s,t⟩
theorem xh{d:Array Oper}{o:Oper}{a:Act}{E:Prop}(k:o.guard=none)(s x:Operand)(p:o.op=.call {callee:=.builtin .append,args:= #[s,x],argTypes:= #[187,187]})(t:a.eval s=v)(z:a.eval x=af xa m xc)(q:w.ownsRow base 184 2 v n xs)(u:fB w ps xa)(l:ps.length=m)(h:n+m<=200000)(j:base<=w.heap.size)(i:∀b c w',w'.ownsRow base 184 2 (af b (n+m) c) (n+m) (xs++bA ps)->w.grownBy w' v.ownBlock->((Value.slice b (n+m) c).ownBlock=v.ownBlock\/(Value.slice b (n+m) c).ownBlock=some w.heap.size)->K (a.put o.dst (af b (n+m) c)) w'):if Region.wanted o (yielded d a.tmps)=true then Oper.wp Tryz.prog o a w K Q else E:=by
 have y:Region.wanted o (yielded d a.tmps)=true:=by simp[Region.wanted,k]
 rw[if_pos y];obtain⟨b,c,w',r,e,f,g⟩:=xK (xc:=xc) o.type q u l h j;unfold Oper.wp execOp;simp only[p,resolve,invoke,builtin,jF,jG,jE,jB,bB,dB,t,z,r];exact i _ _ _ e f g
theorem ed.turn{name:aq}{g h:Wd}{mv:az}{M:aX}(j:ed base (PL d name g mv) room ws nm M w)(k:co (λb=>b=d) w w')(p:∀tv lv mp:az,w.heap[d]?=some (.cells #[ag name,ae room,tv,lv,mp,ae g.1,ae g.2,mv] 195)->w'.heap[d]?=some (.cells #[ag name,ae room,tv,lv,mp,ae h.1,ae h.2,u] 195)):ed base (PL d name h u) room ws nm M w':=by
 obtain⟨tv,lv,mp,e,i,f,l,m,n,o⟩:=j;refine⟨tv,lv,mp,⟨⟨rfl,am rfl⟩,p tv lv mp e.2⟩,eA i k (λb a c=>?_),f.kept k (λb a c=>?_) (λb a c=>?_),l,m,n,o⟩
 ·subst c;exact oo i e (by decide) a
 ·subst c;exact oo f.1 e (by decide) a
 ·subst c;exact uZ f e a
theorem kw.words(k:kw Mh ma vs d w):fB w vs ma:=by
 rcases k with⟨_,b,_⟩|⟨c,e,l,h,_,i,m,_,n,j⟩
 ·exact ak b
 ·refine am ⟨⟨c,e,none⟩,h,λg p f=>?_⟩;have o:=(bj.1 f).1;have a:=f;rw[<-j,jz]at a;split at a
  ·rw[jy,nF]at a;have b:(⟨c,e,none⟩:Addr).add g=⟨c,e+g,none⟩:=by unfold Addr.add;split<;>simp[*]
   rw[b];simp[World.cell?,i,a]
  ·cases a
theorem kN.tidied{a:List (Tm N)}(q:kN N ws nm room e a):kN N (kC ws N e).2.1 nm room (kC ws N e).1 a/\((kC ws N e).2.1.length:Int)=(a.map (sz N)).sum/\(kC ws N e).1.length=e.length:=by
 obtain⟨k,w,l,z,A,x,y,m⟩:=q;obtain⟨n,o,p⟩:=Fk m k w;have i:∀b∈a,aM ⟨N,b⟩:=λb f=>pI (l b f).1;have j:=o7 (λg ws nm d=>il N g ws nm d) a [] nm i;have t:=Cv N a [] nm;have r:=wm (λg ws nm d=>Av N g ws nm d) a [] nm i;have h:=im (bw N) a [] nm;rw[p]at j;rw[n,o];simp only[eW]at t;refine⟨⟨⟨h,λv C b u f=>?_⟩,r.1,l,by omega,by omega,x,y,m⟩,by omega,by rw[h,k.1]⟩;obtain⟨B,c,s⟩:=j v b f;rw[u]at c;injection c with c;rw[c];exact s
theorem nC(w:ah){q:Nat}(b:g≠q)(o:Nat)(v:az)(j:Nat):(w.setCell ⟨q,o,none⟩ v).cell? ⟨g,j,none⟩=w.cell? ⟨g,j,none⟩:=by
 refine bN ?_ j;have c:¬q=g:=λa=>b a.symm;simp[World.setCell,bS,c]
def wH(g L:Nat):ay:=if L=0 then some ⟨g,0,none⟩else some ⟨g,2,none⟩
def DA(w:ah)(a:Nat)(b:Wd)(mv:az):ah:=((w.setCell ⟨a,5,none⟩ (ae b.1)).setCell ⟨a,5+1,none⟩ (ae b.2)).setCell ⟨a,7,none⟩ mv
theorem Ju(d:Nat)(f:Wd)(vs:List Wd)(L:Nat)(ma:ay)(t:Nat)(w:ah)(Fin:Nat->Wd->ah->bF)(Q:Hid (vs.length=L))(T:L<=1000)(q:Hid (∀w1,ap w w1->ai w1 d 5 (ae f.1)/\ai w1 d (5+1) (ae f.2)/\ai w1 d 7 (af ma L t)))(M:Hid (∀w1,ap w w1->fB w1 vs ma))(G:Hid (∀w1,ap w w1->∀(a:ay)(c:Nat),w1.ownsRow w.heap.size 184 2 (af a (1+L) c) (1+L) (bA (f::vs))->au 232 #[.pointer (some ⟨d,1,none⟩),af a (1+L) c] w1 λe w'=>∃(g:Nat)(h:Wd),e=aw (ax #[af (some ⟨g,0,none⟩) (1+L) (1+L),ae 0])/\Hid ((ai w' g 0 (ae h.1)/\ai w' g 1 (ae h.2))/\g≠d/\(∃B C D,ai w' d 5 B/\ai w' d (5+1) C/\ai w' d 7 D)/\(∀j,w'.frozen? ⟨d,j,none⟩=false)/\Fin g h w1 w'))):au 213 #[aF d] w λe w'=>e=aw (ax #[])/\∃(g:Nat)(h:Wd)(w1 w2:ah),w'=(DA w2 d h (af (wH g L) L L)).drew/\Hid (ap w w1/\Fin g h w1 w2):=by
 obtain⟨N,O,P⟩:=q.out w (aH _ _);have H:Hid (ap w w.drew):=(aH _ _).drew;have k:Hid (ap w (w.alloc (.cells #[ae f.1,ae f.2] 184)).drew/\(w.alloc (.cells #[ae f.1,ae f.2] 184)).drew.ownsRow w.heap.size 184 2 (af (some ⟨w.heap.size,0,none⟩) 1 1) 1 (qG f)):=by
  refine⟨by go_grown,rfl,am ⟨w.heap.size,1, #[ae f.1,ae f.2],rfl,aA _,sx w _ rfl,aA _,by unfold maxLen;omega,rfl,rfl⟩⟩
 go_enter func213,ntmps213;go_wp2_with fail
 go_region_held3 (λw'=>w'.cell? ⟨d,5,none⟩=some (ae f.1)/\w'.cell? ⟨d,5+1,none⟩=some (ae f.2)/\w'.cell? ⟨d,7,none⟩=some (af ma L t)) (first|(go_keep;done)|with_reducible exact q _ H|with_reducible exact q _ k.1|exact q _ r)
  ((refine xh rfl _ _ rfl (base:=w.heap.size) (v:=af (some ⟨w.heap.size,0,none⟩) 1 1) (n:=1) (m:=L) (xc:=t) (xs:=qG f) (ps:=vs) (xa:=ma) (by simp[Act.eval]) (by simp[Act.eval]) k.2 (M _ k.1) Q (by omega) (by have:=k.1.size;exact this) ?_;intro u x w2 A o R;have r:Hid (ap w w2):=(k.1.trans ⟨o.os,o.tape,o.output,o.size,λb S=>o.block b (bi S k.1.size) (λe=>by simp[Value.ownBlock]at e;omega)⟩);have K:=av (show w2.ownsRow w.heap.size 184 2 (af u (1+L) x) (1+L) (bA (f::vs))from A);clear A o R))
 have F:=av (G w2 r u x K);clear N O P;go_wp2_with fail;refine F.mono ?_;rintro e i ⟨g,h,rfl,E⟩;obtain⟨⟨y,z⟩,l,⟨B,C,D,d5,d6,d7⟩,U,s⟩:=E;replace s:=av s;have W:(0:Int)<1+(L:Int):=by omega
 have X:(1:Int)<=1+(L:Int):=by omega
 have V:d≠g:=λe=>l e.symm;have I:Hid (∀a b:az,((i.setCell ⟨d,5,none⟩ a).setCell ⟨d,5+1,none⟩ b).cell? ⟨g,0,none⟩=some (ae h.1)/\((i.setCell ⟨d,5,none⟩ a).setCell ⟨d,5+1,none⟩ b).cell? ⟨g,1,none⟩=some (ae h.2)):=λa b=>by
  have p:∀j,((i.setCell ⟨d,5,none⟩ a).setCell ⟨d,5+1,none⟩ b).cell? ⟨g,j,none⟩=i.cell? ⟨g,j,none⟩:=λj=>(nC _ l _ _ j).trans (nC _ l _ _ j);exact⟨(p _).trans y,(p _).trans z⟩
 have J:Hid (∀a b c:az,(((i.setCell ⟨d,5,none⟩ a).setCell ⟨d,5+1,none⟩ b).setCell ⟨d,7,none⟩ c).cell? ⟨g,0,none⟩=some (ae h.1)/\(((i.setCell ⟨d,5,none⟩ a).setCell ⟨d,5+1,none⟩ b).setCell ⟨d,7,none⟩ c).cell? ⟨g,1,none⟩=some (ae h.2)):=λa b c=>by
  have p:∀j,(((i.setCell ⟨d,5,none⟩ a).setCell ⟨d,5+1,none⟩ b).setCell ⟨d,7,none⟩ c).cell? ⟨g,j,none⟩=i.cell? ⟨g,j,none⟩:=λj=>(nC _ l _ _ j).trans ((nC _ l _ _ j).trans (nC _ l _ _ j));exact⟨(p _).trans y,(p _).trans z⟩
 go_wp2_with fail;go_region_held3 (λw'=>w'.cell? ⟨g,0,none⟩=some (ae h.1)/\w'.cell? ⟨g,1,none⟩=some (ae h.2)) (first|(go_keep;done)|exact I _ _|exact J _ _ _) (fail);exact eG (v:=ax #[]) (by simp[results]) rfl ⟨rfl,g,h,w2,i,rfl,r,s⟩
theorem kN.front{t:List Wd}{f g:List (Tm N)}(m:kN N ws nm room (e++t) (f++g))(n:e.length=f.length):kN N ws nm room e f:=by
 obtain⟨i,d,j,k,p,q,r,s⟩:=m;refine⟨⟨n,λo u b h c=>i.2 o u b ?_ ?_⟩,?_,λb c=>j b (List.mem_append_left _ c),?_,p,q,r,s⟩
 ·rw[dO (bj.1 h).1];exact h
 ·rw[dO (bj.1 c).1];exact c
 ·rw[lD]at d;exact(fM.1 d).1
 ·rw[fw,nO]at k;have w:(0:Int)<=(g.map (sz N)).sum:=by
   clear i d k
   induction g with
   | nil=>simp
   | cons b l ih=>
    have x:=ih λv a=>j v (by simp only[dv,cr]at a ⊢;rcases a with a|a<;>simp[a]);have y:=(fJ N b).1;simp only[bB,dk];omega
  omega
theorem GO{N:Nat}:(l:List (Tm N))->(l.map λy=>1+sz N y).sum=l.length+(l.map (sz N)).sum
 | []=>by simp
 | y::l=>by
  have a:=GO l;simp only[bB,dk,bv,a];omega
theorem yJ{N:Nat}:(l:List (Tm N))->(∀y∈l,aM ⟨N,y⟩)->((l.flatMap λy=>aI N y).length:Int)<=(l.map λy=>1+sz N y).sum
 | [],_=>by simp
 | y::l,h=>by
  have c:=yJ l λb a=>h b (by simp[a]);have d:=wN N y (h y (by simp));simp only[bM,br,bB,dk];omega
theorem kN.roots{a:List (Tm N)}(h:kN N ws nm room e a)(i:e.length<=1000):FY ws nm N e a:=by
 obtain⟨f,m,g,n,o,p,q,r⟩:=h;have d:∀b∈a,aM ⟨N,b⟩:=λb c=>pI (g b c).1;have j:=GO a;have k:=yJ a d;have l:=f.1;exact⟨f,d,λb c=>(g b c).2,by omega,by omega,i⟩
theorem E7(e:w.ownsRow base 184 2 (af a n c) n (bA vs))(s:0<n):fj w vs a/\∀b o,a=some ⟨b,o,none⟩->b<w.heap.size:=by
 rcases e.2 with⟨d,q⟩|⟨h,cap,p,d,t,i,_⟩
 ·omega
 ·injection d with f r g;subst f g;have j:=(aS.1 i).1;refine⟨am ⟨h,0,rfl,j,λl m k=>?_⟩,λb o d=>?_⟩
  ·have:=jw e l m k;rw[cC];exact this
  ·injection d with d;injection d with d;omega
section
variable {base pb:Nat} {name:aq} {room:Int} {N:Nat} {s:Tm (N+1)} {ms:List (Tm (N+1))} {xs:List (Wd×Tm (N+1))} {nk:Nat} {M:aX} {w:ah} {ws:List Wd} {nm:bm} {sv:Wd} {vs:List Wd} {ma:ay} {mc:Nat} {Mh:aX}
theorem cW.front(a:cW base pb name room (N+1) s ms xs nk M w ws nm sv vs ma mc Mh):kN (N+1) ws nm room (sv::vs) (s::ms):=
 kN.front a.has (by simp[a.len])
theorem FM{w:ah}{pb:Nat}{c0 a b c d e f g:az}{t:TypeId}(sv:Wd)(mv:az)(h:w.heap[pb]?=some (.cells #[c0,a,b,c,d,e,f,g] t)):(DA w pb sv mv).heap[pb]?=some (.cells #[c0,a,b,c,d,ae sv.1,ae sv.2,mv] t):=by
 unfold DA World.setCell;simp[bS,h]
theorem JG(w:ah)(pb:Nat)(sv:Wd)(mv:az):co (λb=>b=pb) w (DA w pb sv mv).drew:=by
 have c:=bJ w pb 5 (ae sv.1);have d:=bJ (w.setCell ⟨pb,5,none⟩ (ae sv.1)) pb (5+1) (ae sv.2);have e:=bJ ((w.setCell ⟨pb,5,none⟩ (ae sv.1)).setCell ⟨pb,5+1,none⟩ (ae sv.2)) pb 7 mv;have a:=(c.trans d λ_ _ k=>k).trans e λ_ _ k=>k;exact⟨a.os,a.tape,a.output,a.size,a.block⟩
def MH(base pb:Nat)(name:aq)(room:Int)(N:Nat)(s:Tm N)(ms:List (Tm N))(nk:Nat)(M:aX)(nm:bm)(w:ah)(e:Ending)(w':ah):Prop:=
 e=aw (ax #[])/\∃c g a f d,cW base pb name room N s ms [] nk (λb=>M b\/w.heap.size<=b) w' c nm g a f a.length d/\Hid (co M w w'/\(c.length:Int)=((s::ms).map (sz N)).sum)
theorem cW.tidy(e:cW base pb name room (N+1) s ms xs nk M w ws nm sv vs ma mc Mh)(aH:nk<=95000)(aA:ms.length<=999)(aB:base<=w.heap.size):au 213 #[aF pb] w (MH base pb name room (N+1) s ms nk M nm w):=by
 have C:=e.front;have aE:=e.len;have ah:=e.names;have al:=C.roots (by simp only[bv];omega);obtain⟨L,ao,v⟩:=C.tidied;obtain⟨q,j,B⟩:∃q j,(kC ws (N+1) (sv::vs)).1=q::j:=by
  cases u:(kC ws (N+1) (sv::vs)).1 with
  | nil=>rw[u]at v;simp at v
  | cons n l=>exact⟨n,l,rfl⟩
 rw[B]at L v;simp only[bv]at v;have I:j.length=vs.length:=by omega
 obtain⟨_,_,_,_,aJ,_,aK,_⟩:=C;refine(Ju pb sv vs vs.length ma mc w (λa m g r=>m=q/\zF base (PL pb name sv (af ma vs.length mc)) room (kC ws (N+1) (sv::vs)) nm Mh a g r) rfl (by omega) ?_ ?_ ?_).mono ?_
 ·intro g f;obtain⟨R,P,aq,z,_⟩:=(e.later f).heap.box;obtain⟨_,U,V,W,_⟩:=PL.cells z;exact⟨U,V,W⟩
 ·intro g f;exact(e.later f).mail.words
 ·intro g f n c ai;have an:=f.size;obtain⟨ad,ag⟩:=E7 ai (by omega);have ae:(sv::vs).length=1+vs.length:=by simp only[bv];omega
  have t:=As (N+1) (s::ms) (sv::vs) n c base (PL pb name sv (af ma vs.length mc)) room ws nm Mh g (e.later f).heap al ad ag (by omega) (by omega) (by omega);rw[ae]at t;refine t.mono ?_;rintro d r ⟨a,rfl,G⟩;have T:=G.out;obtain⟨E,Q,F,av,aw,x⟩:=T;obtain⟨R,P,aq,z,_⟩:=E.box;obtain⟨_,d5,d6,d7,d8,d9⟩:=PL.cells z;obtain⟨ax,ap,ar,A,_⟩:=(e.later f).heap.box;have aj:pb<g.heap.size:=(PL.cells A).2.2.2.2.2;refine⟨a,q,rfl,⟨?_,by omega,⟨_,_,_,d5,d6,d7⟩,d8,rfl,G⟩⟩;rw[B]at F;rcases F with d|⟨b,o,d,aC,aa⟩
  ·cases d
  ·injection d with d;injection d with k p;subst k p;have:=aa 0 q rfl;simpa using this
 ·rintro d aL ⟨rfl,a,m,g,r,rfl,S⟩;obtain⟨f,rfl,E,Q,F,av,aw,len,x⟩:=S;have an:=f.size;obtain⟨ax,ap,ar,A,_⟩:=(e.later f).heap.box;have aj:pb<g.heap.size:=(PL.cells A).2.2.2.2.2;have Y:Mh pb:=by
   obtain⟨_,_,_,_,_,_,i,_⟩:=e.heap;exact i
  have D:=JG r pb m (af (wH a vs.length) vs.length vs.length);rw[B]at x;have ab:¬a=pb:=by omega
  refine⟨rfl,(kC ws (N+1) (sv::vs)).2.1,m,j,wH a vs.length,λb=>(Mh b\/g.heap.size<=b)/\b≠a,⟨?_,?_,?_,by omega,ah,?_,?_⟩,?_⟩
  ·rw[I];exact E.turn D λR P mp t=>FM m _ t
  ·rw[I];rcases x.2 with⟨d,ay⟩|⟨az,cap,y,d,_,u,aD,aG,aI,O⟩
   ·cases d
   ·injection d with k p X;injection k with k;injection k with k;subst k X;have J:(DA r pb m (af (wH a vs.length) vs.length vs.length)).drew.heap[a]?=some (.cells y 184 (0,0)):=(D.block a (aS.1 u).1 ab).trans u;have K:=x.1;rw[cQ]at K;simp only[bv]at K;refine am ?_;by_cases H:vs.length=0
    ·refine⟨a,0,y,by simp[wH,H],by simp,J,by omega,by unfold maxLen;omega,by omega,?_⟩;have:j=[]:=List.length_eq_zero_iff.1 (by omega);simp[this,bA]
    ·refine⟨a,2,y,by simp[wH,H],by simp,J,by omega,by omega,by omega,?_⟩;have d:len*2=2+j.length*2:=by omega
     rw[d]at O;have p:=congrArg (List.drop 2) O;rw[List.drop_take,show 2+j.length*2-2=j.length*2 from by omega]at p;exact p
  ·simpa using L
  ·intro b Z;rcases Z.1 with i|i
   ·exact ak (e.inM b i)
   ·exact am (by omega)
  ·intro n h;have:n.block=a:=by
    unfold wH at h;split at h
    ·injection h with h;rw[<-h]
    ·injection h with h;rw[<-h]
   exact am (by omega)
  ·refine⟨?_,ao⟩;refine co.trans ((bC f M).trans (Q.mono e.inM) λ_ _ i=>i) D λb _ i=>?_;rw[i];exact e.inM pb Y
end
def Up(n:Nat)(w0 w1:ah):Prop:=w0.heap.size<=w1.heap.size/\∀b,n<=b->b<n+3->b<w0.heap.size->w1.heap[b]?=w0.heap[b]?
theorem wY(w:ah){q:Nat}(c:b≠q)(o:Nat)(v:az):(w.setCell ⟨q,o,none⟩ v).heap[b]?=w.heap[b]? :=by
 have d:¬q=b:=λa=>c a.symm;simp[World.setCell,bS,d]
def wR(w:ah)(g:Nat)(a b:az):ah:=(w.setCell ⟨g,0,none⟩ a).setCell ⟨g,0+1,none⟩ b
theorem mg(a:b≠g)(x y:az):(wR w g x y).heap[b]?=w.heap[b]? :=(wY _ a _ _).trans (wY _ a _ _)
theorem Jd(w:ah)(g:Nat)(x y:az):(wR w g x y).heap.size=w.heap.size:=by simp[wR,World.setCell]
theorem CZ(aj:Nat)(k i:Int)(t:aq)(h:ay)(l j:Nat)(w:ah)(O:Wd->Int->ah->bF)(al:ah->bF)(aM:Wd->Int->ah->bF)(aO:Hid (∀w0,ap w w0->au 123 #[.pointer (some ⟨aj,1,none⟩),aB k i t h l j] w0 λe w1=>∃(v:Wd)(g:Int),e=aw (ax #[.agg #[ae v.1,ae v.2],ae g])/\Hid (Up w.heap.size w0 w1/\O v g w0 w1)))(aQ:Hid (∀v1 w0 w1 w2,ap w w0->O v1 6 w0 w1->co (λb=>w.heap.size<=b/\b<w0.heap.size) w1 w2->w.heap.size+3<=w2.heap.size->au 213 #[aF aj] w2 λe d=>e=aw (ax #[])/\Hid (Up w.heap.size w2 d/\al w2 d)))(aP:Hid (∀w2 d N,al w2 d->w.heap.size+3<=w2.heap.size->ap d N->au 123 #[.pointer (some ⟨aj,1,none⟩),aB k i t h l j] N λe w4=>∃(v:Wd)(g:Int),e=aw (ax #[.agg #[ae v.1,ae v.2],ae g])/\Hid (Up w.heap.size N w4/\aM v g N w4))):au 185 #[aF aj,aB k i t h l j] w λe w'=>∃(v:Wd)(g:Int),e=aw (ax #[.agg #[ae v.1,ae v.2],ae g])/\ ((g≠6/\∃w0 w1,ap w w0/\O v g w0 w1/\co (λb=>w.heap.size<=b/\b<w0.heap.size) w1 w')\/∃v1 w0 w1 w2 d N w4,ap w w0/\O v1 6 w0 w1/\co (λb=>w.heap.size<=b/\b<w0.heap.size) w1 w2/\w.heap.size+3<=w2.heap.size/\al w2 d/\ap d N/\aM v g N w4/\co (λb=>b=w.heap.size+1) w4 w'):=by
 go_enter func185,ntmps185;go_wp2_with fail;have R:=av (ld w (.cells #[ae k,ae i,ag t,af h l j] 54) (.cells #[ae 0,ae 0] 184));have m:Hid (ap w ((w.alloc (.cells #[ae k,ae i,ag t,af h l j] 54)).alloc (.cells #[ae 0,ae 0] 184))/\((w.alloc (.cells #[ae k,ae i,ag t,af h l j] 54)).alloc (.cells #[ae 0,ae 0] 184)).heap.size=w.heap.size+1+1):=⟨by go_grown,by simp⟩;generalize aR:(w.alloc _).alloc _=c;rw[aR]at R m;clear aR;have F:Hid (∀w':ah,w'.heap[w.heap.size]?=c.heap[w.heap.size]? ->ai w' w.heap.size 0 (ae k)/\ai w' w.heap.size 1 (ae i)/\ai w' w.heap.size 2 (ag t)/\ai w' w.heap.size 3 (af h l j)):=λw' T=>by
  have f:=T.trans R.1;exact⟨aD f 0,aD f 1,aD f 2,aD f 3⟩
 obtain⟨aX,aY,aZ,a0⟩:=F.out c rfl;have u:Hid (ap c c.drew/\c.drew.heap[w.heap.size]?=c.heap[w.heap.size]?):=⟨(aH _ _).drew,rfl⟩;have Q:Hid (ap c (c.alloc (.cells #[ae 0,ae 0] 184)).drew/\(c.alloc (.cells #[ae 0,ae 0] 184)).drew.heap[w.heap.size]?=c.heap[w.heap.size]?):=by
  have T:ap c (c.alloc (.cells #[ae 0,ae 0] 184)).drew:=by go_grown
  exact⟨T,T.block _ (by have:=m.2;omega)⟩
 have ar:Hid ((c.alloc (.cells #[ae 0,ae 0] 184)).drew.heap[c.heap.size]?=some (.cells #[ae 0,ae 0] 184)/\(c.alloc (.cells #[ae 0,ae 0] 184)).drew.heap.size=c.heap.size+1):=⟨sx c _ rfl,by simp⟩
 go_region_held3 (λw'=>w'.cell? ⟨w.heap.size,0,none⟩=some (ae k)/\w'.cell? ⟨w.heap.size,1,none⟩=some (ae i)/\w'.cell? ⟨w.heap.size,2,none⟩=some (ag t)/\w'.cell? ⟨w.heap.size,3,none⟩=some (af h l j)) (first|(go_keep;done)|with_reducible exact F _ u.2|with_reducible exact F _ Q.2|exact F _ P|exact F _ (ab _)|exact F _ (an _ _)|exact F _ (aN _ _ _))
  ((first
   | (go_at_call 123;refine(aO _ (m.1.trans (u.1.mono m.1.size))).mono ?_;rintro e w1 ⟨v,g,rfl,p⟩;have P:Hid (w1.heap[w.heap.size]?=c.heap[w.heap.size]?):=(p.1.2 _ (aA _) (by omega) (by have f:=u.1.size;have s:=m.2;omega)).trans u.2;have ab:Hid (∀o:Obj,(w1.alloc o).heap[w.heap.size]?=c.heap[w.heap.size]?):=λo=>(ia w1 o (by have f:=p.1.1;have s:=u.1.size;have ad:=m.2;omega)).trans P;have aN:Hid (∀(o:Obj)(n b:az),(wR (w1.alloc o) w1.heap.size n b).heap[w.heap.size]?=c.heap[w.heap.size]?):=λo n b=>(mg (by have f:=p.1.1;have s:=u.1.size;have ad:=m.2;omega) n b).trans (ab o))
   | (go_at_call 123;refine(aO _ (m.1.trans (Q.1.mono m.1.size))).mono ?_;rintro e w1 ⟨v,g,rfl,p⟩;have P:Hid (w1.heap[w.heap.size]?=c.heap[w.heap.size]?):=(p.1.2 _ (aA _) (by omega) (by have f:=Q.1.size;have s:=m.2;omega)).trans Q.2;have X:Hid (w1.heap[c.heap.size]?=some (.cells #[ae 0,ae 0] 184)):=(p.1.2 c.heap.size (by have s:=m.2;omega) (by have s:=m.2;omega) (by have s:=ar.2;omega)).trans ar.1;have aU:ai w1 c.heap.size 0 (ae 0):=aD X 0;have aV:ai w1 c.heap.size 1 (ae 0):=aD X 1;have aW:=λz=>dt X z;have an:Hid (∀n b:az,(wR w1 c.heap.size n b).heap[w.heap.size]?=c.heap[w.heap.size]?):=λn b=>(mg (by have ad:=m.2;omega) n b).trans P)))
 ·have V:Hid (∃w0 r w2,(r=w1.heap.size/\w2=w1.alloc (.cells #[ae v.1,ae v.2] 184))/\ap w w0/\O v g w0 w1/\co (λb=>w.heap.size<=b/\b<w0.heap.size) w1 w2/\w.heap.size+3<=w2.heap.size/\w2.heap[w.heap.size]?=some (.cells #[ae k,ae i,ag t,af h l j] 54)/\w2.heap[w.heap.size+1]?=some (.cells #[ae 0,ae 0] 184)/\w2.heap[r]?=some (.cells #[ae v.1,ae v.2] 184)/\w.heap.size+1≠r/\w.heap.size+2<=w0.heap.size):=by
    have f:=p.1.1;have s:=u.1.size;have ad:=m.2;have aC:∀b,b<w1.heap.size->(w1.alloc (.cells #[ae v.1,ae v.2] 184)).heap[b]?=w1.heap[b]? :=λb aT=>ia w1 _ aT;refine⟨c.drew,_,_,⟨rfl,rfl⟩,m.1.trans (u.1.mono m.1.size),p.2,bC bf _,by simp only[fP];omega,(ab _).trans R.1,?_,aL _ _,by omega,by omega⟩;exact(aC _ (by omega)).trans ((p.1.2 _ (by omega) (by omega) (by omega)).trans ((u.1.block _ (by omega)).trans R.2))
  obtain⟨w0,r,w2,⟨S,J⟩,a⟩:=V.out;rw[<-S,<-J];replace a:=av a;clear S J V ab aN P p;have aJ:ai w2 r 0 (ae v.1):=aD a.2.2.2.2.2.2.1 0;have aK:ai w2 r 1 (ae v.2):=aD a.2.2.2.2.2.2.1 1;have A:w2.cell? ⟨w.heap.size+1,0,none⟩=some (ae 0):=aD a.2.2.2.2.2.1 0;have B:w2.cell? ⟨w.heap.size+1,1,none⟩=some (ae 0):=aD a.2.2.2.2.2.1 1;have aa:=λz=>dt a.2.2.2.2.2.1 z;by_cases K:g=6;rotate_left
  ·have aS:¬(6:Int)=g:=λe=>K e.symm;go_wp2_with fail;refine aE (v:=ax #[.agg #[ae v.1,ae v.2],ae g]) (by simp[results,results185,go_sem,A,B]) rfl ?_;obtain⟨G,H,I,_,_,_,_,_,Y⟩:=a.out;refine⟨v,g,rfl,ak ⟨K,w0,w1,G,H,co.trans I ((bJ w2 (w.heap.size+1) 0 _).trans (bJ _ (w.heap.size+1) _ _) λ_ _ e=>e) λb _ e=>?_⟩⟩;subst e;omega
  ·subst K;have W:=av (aQ v w0 w1 w2 a.1 a.2.1 a.2.2.1 a.2.2.2.1);go_wp2_with fail;refine W.mono ?_;rintro e d ⟨rfl,C⟩;clear aJ aK A B aa W;have q:Hid (d.heap[w.heap.size]?=some (.cells #[ae k,ae i,ag t,af h l j] 54)/\d.heap[w.heap.size+1]?=some (.cells #[ae 0,ae 0] 184)/\w.heap.size+3<=d.heap.size):=by
    have aI:=a.2.2.2.1;have L:=C.1;exact⟨(L.2 _ (by omega) (by omega) (by omega)).trans a.2.2.2.2.1,(L.2 _ (by omega) (by omega) (by omega)).trans a.2.2.2.2.2.1,aG aI L.1⟩
   have x:Hid (ap d d.drew):=(aH _ _).drew;have y:Hid (∀w':ah,w'.heap[w.heap.size]?=some (.cells #[ae k,ae i,ag t,af h l j] 54)->ai w' w.heap.size 0 (ae k)/\ai w' w.heap.size 1 (ae i)/\ai w' w.heap.size 2 (ag t)/\ai w' w.heap.size 3 (af h l j)):=λw' f=>⟨aD f 0,aD f 1,aD f 2,aD f 3⟩;obtain⟨t0,t1,t2,t3⟩:=y.out d q.1;go_wp2_with fail
   go_region_held3 (λw'=>w'.cell? ⟨w.heap.size,0,none⟩=some (ae k)/\w'.cell? ⟨w.heap.size,1,none⟩=some (ae i)/\w'.cell? ⟨w.heap.size,2,none⟩=some (ag t)/\w'.cell? ⟨w.heap.size,3,none⟩=some (af h l j)) (first|(go_keep;done)|exact y _ q.1|exact y _ U|exact y _ (ao _ _))
    ((go_at_call 123;refine(aP w2 d _ C.2 a.2.2.2.1 x).mono ?_;rintro e w4 ⟨M,Z,rfl,D⟩;have U:Hid (w4.heap[w.heap.size]?=some (.cells #[ae k,ae i,ag t,af h l j] 54)):=(D.1.2 _ (aA _) (by omega) (by have f:=q.2.2;have s:=x.size;omega)).trans q.1;have E:Hid (w4.heap[w.heap.size+1]?=some (.cells #[ae 0,ae 0] 184)):=(D.1.2 (w.heap.size+1) (by omega) (by omega) (by have f:=q.2.2;have s:=x.size;omega)).trans q.2.1;have A:w4.cell? ⟨w.heap.size+1,0,none⟩=some (ae 0):=aD E 0;have B:w4.cell? ⟨w.heap.size+1,1,none⟩=some (ae 0):=aD E 1;have aa:=λz=>dt E z;have ao:Hid (∀n b:az,(wR w4 (w.heap.size+1) n b).heap[w.heap.size]?=some (.cells #[ae k,ae i,ag t,af h l j] 54)):=λn b=>(mg (by omega) n b).trans U))
   go_wp2_with fail;refine aE (v:=ax #[.agg #[ae M.1,ae M.2],ae Z]) (by simp[results,results185,go_sem,A,B]) rfl ?_;obtain⟨G,H,I,Y,_⟩:=a.out;exact⟨M,Z,rfl,am ⟨v,w0,w1,w2,d,d.drew,w4,G,H,I,Y,C.2,x,D.2,(bJ w4 (w.heap.size+1) 0 _).trans (bJ _ (w.heap.size+1) _ _) λ_ _ e=>e⟩⟩
 ·have V:Hid (∃w0 r w2,(r=c.heap.size/\w2=wR w1 c.heap.size (ae v.1) (ae v.2))/\ap w w0/\O v g w0 w1/\co (λb=>w.heap.size<=b/\b<w0.heap.size) w1 w2/\w.heap.size+3<=w2.heap.size/\w2.heap[w.heap.size]?=some (.cells #[ae k,ae i,ag t,af h l j] 54)/\w2.heap[w.heap.size+1]?=some (.cells #[ae 0,ae 0] 184)/\w2.heap[r]?=some (.cells #[ae v.1,ae v.2] 184)/\w.heap.size+1≠r/\w.heap.size+2<=w0.heap.size):=by
    have f:=p.1.1;have s:=ar.2;have ad:=m.2;have aC:co (λb=>w.heap.size<=b/\b<(c.alloc (.cells #[ae 0,ae 0] 184)).drew.heap.size) w1 (wR w1 c.heap.size (ae v.1) (ae v.2)):=((bJ w1 c.heap.size 0 _).trans (bJ _ c.heap.size _ _) λ_ _ e=>e).mono λb e=>by subst e;omega
    refine⟨_,_,_,⟨rfl,rfl⟩,m.1.trans (Q.1.mono m.1.size),p.2,aC,by rw[Jd];omega,(an _ _).trans R.1,?_,?_,by omega,by omega⟩
    ·exact(mg (by omega) _ _).trans ((p.1.2 _ (by omega) (by omega) (by omega)).trans ((Q.1.block _ (by omega)).trans R.2))
    ·have T:=X.out;unfold wR World.setCell;simp[bS,T]
  obtain⟨w0,r,w2,⟨S,J⟩,a⟩:=V.out;unfold wR at J;rw[<-S];rw[<-S]at J;rw[<-J];replace a:=av a;clear S J V an P p X aU aV aW;have aJ:ai w2 r 0 (ae v.1):=aD a.2.2.2.2.2.2.1 0;have aK:ai w2 r 1 (ae v.2):=aD a.2.2.2.2.2.2.1 1;have A:w2.cell? ⟨w.heap.size+1,0,none⟩=some (ae 0):=aD a.2.2.2.2.2.1 0;have B:w2.cell? ⟨w.heap.size+1,1,none⟩=some (ae 0):=aD a.2.2.2.2.2.1 1;have aa:=λz=>dt a.2.2.2.2.2.1 z;by_cases K:g=6;rotate_left
  ·have aS:¬(6:Int)=g:=λe=>K e.symm;go_wp2_with fail;refine aE (v:=ax #[.agg #[ae v.1,ae v.2],ae g]) (by simp[results,results185,go_sem,A,B]) rfl ?_;obtain⟨G,H,I,_,_,_,_,_,Y⟩:=a.out;refine⟨v,g,rfl,ak ⟨K,w0,w1,G,H,co.trans I ((bJ w2 (w.heap.size+1) 0 _).trans (bJ _ (w.heap.size+1) _ _) λ_ _ e=>e) λb _ e=>?_⟩⟩;subst e;omega
  ·subst K;have W:=av (aQ v w0 w1 w2 a.1 a.2.1 a.2.2.1 a.2.2.2.1);go_wp2_with fail;refine W.mono ?_;rintro e d ⟨rfl,C⟩;clear aJ aK A B aa W;have q:Hid (d.heap[w.heap.size]?=some (.cells #[ae k,ae i,ag t,af h l j] 54)/\d.heap[w.heap.size+1]?=some (.cells #[ae 0,ae 0] 184)/\w.heap.size+3<=d.heap.size):=by
    have aI:=a.2.2.2.1;have L:=C.1;exact⟨(L.2 _ (by omega) (by omega) (by omega)).trans a.2.2.2.2.1,(L.2 _ (by omega) (by omega) (by omega)).trans a.2.2.2.2.2.1,aG aI L.1⟩
   have x:Hid (ap d d.drew):=(aH _ _).drew;have y:Hid (∀w':ah,w'.heap[w.heap.size]?=some (.cells #[ae k,ae i,ag t,af h l j] 54)->ai w' w.heap.size 0 (ae k)/\ai w' w.heap.size 1 (ae i)/\ai w' w.heap.size 2 (ag t)/\ai w' w.heap.size 3 (af h l j)):=λw' f=>⟨aD f 0,aD f 1,aD f 2,aD f 3⟩;obtain⟨t0,t1,t2,t3⟩:=y.out d q.1;go_wp2_with fail
   go_region_held3 (λw'=>w'.cell? ⟨w.heap.size,0,none⟩=some (ae k)/\w'.cell? ⟨w.heap.size,1,none⟩=some (ae i)/\w'.cell? ⟨w.heap.size,2,none⟩=some (ag t)/\w'.cell? ⟨w.heap.size,3,none⟩=some (af h l j)) (first|(go_keep;done)|exact y _ q.1|exact y _ U|exact y _ (ao _ _))
    ((go_at_call 123;refine(aP w2 d _ C.2 a.2.2.2.1 x).mono ?_;rintro e w4 ⟨M,Z,rfl,D⟩;have U:Hid (w4.heap[w.heap.size]?=some (.cells #[ae k,ae i,ag t,af h l j] 54)):=(D.1.2 _ (aA _) (by omega) (by have f:=q.2.2;have s:=x.size;omega)).trans q.1;have E:Hid (w4.heap[w.heap.size+1]?=some (.cells #[ae 0,ae 0] 184)):=(D.1.2 (w.heap.size+1) (by omega) (by omega) (by have f:=q.2.2;have s:=x.size;omega)).trans q.2.1;have A:w4.cell? ⟨w.heap.size+1,0,none⟩=some (ae 0):=aD E 0;have B:w4.cell? ⟨w.heap.size+1,1,none⟩=some (ae 0):=aD E 1;have aa:=λz=>dt E z;have ao:Hid (∀n b:az,(wR w4 (w.heap.size+1) n b).heap[w.heap.size]?=some (.cells #[ae k,ae i,ag t,af h l j] 54)):=λn b=>(mg (by omega) n b).trans U))
   go_wp2_with fail;refine aE (v:=ax #[.agg #[ae M.1,ae M.2],ae Z]) (by simp[results,results185,go_sem,A,B]) rfl ?_;obtain⟨G,H,I,Y,_⟩:=a;exact⟨M,Z,rfl,am ⟨v,w0,w1,w2,d,d.drew,w4,G,H,I,Y,C.2,x,D.2,(bJ w4 (w.heap.size+1) 0 _).trans (bJ _ (w.heap.size+1) _ _) λ_ _ e=>e⟩⟩
theorem kN.lay{q:List (Tm N)}(t:kN N ws nm room e q)(x:Tm N)(j:bL N x=0/\aY N x=true/\sz N x<=room-ws.length)(y:(bw N x ws nm).2.2.Nodup):kN N (bw N x ws nm).2.1 (bw N x ws nm).2.2 room (e++ [(bw N x ws nm).1]) (q++ [x]):=by
 obtain⟨f,A,B,K,L,C,D,M⟩:=t;have n:=pI j.1;obtain⟨p,F⟩:=nh N x ws nm;have z:=il N x ws nm n;have m:=Av N x ws nm n;have J:=(jg N x ws nm).1;have l:∀c∈e,pT (bw N x ws nm).2.1 N c=pT ws N c/\∀E∈pT ws N c,E<ws.length:=λc i=>by
  obtain⟨g,_,o⟩:=f.mem i;exact⟨sG p N g c o,AG N g c o⟩
 refine⟨⟨by simp[f.1],λk G g d a=>?_⟩,?_,λg a=>?_,?_,by omega,C,D,y⟩
 ·rcases Nat.lt_or_ge k e.length with h|h
  ·rw[dO h]at d;rw[dO (by rw[<-f.1];exact h)]at a;exact(f.2 k G g d a).mono p F
  ·rw[ft h]at d;rw[ft (by rw[<-f.1];exact h)]at a;have s:k-e.length=0:=by
    have:=(bj.1 d).1;simp at this;omega
   rw[<-f.1]at a;rw[s]at d a;simp only[dn,iv]at d a;rw[<-d,<-a];exact z
 ·rw[lD,nY (λc i=>(l c i).1)];simp only[bM,List.flatMap_nil,eF];refine fM.2 ⟨A,m.1,λr u b w=>?_⟩;obtain⟨c,i,v⟩:=kt.1 u;have H:=(l c i).2 r v;have I:=m.2 b w;omega
 ·rcases dv.1 a with a|a
  ·exact B g a
  ·rw[dP.1 a];exact⟨j.1,j.2.1⟩
 ·simp only[fw,nO,bB,dB,dk,List.sum_nil];omega
def tF(N:Nat)(x:Tm N)(room:Int)(a:List (Tm N)):Int:=if bL N x≠0 then bL N x else if aY N x=false then 5 else if (a.map (sz N)).sum+sz N x<=room then 0 else 6
theorem Fi{x:Tm N}{e:List (Tm N)}(c:jo N x room ws≠6)(f:(e.map (sz N)).sum<=(ws.length:Int)):tF N x room e=jo N x room ws:=by
 unfold tF jo at*;by_cases a:bL N x≠0
 ·simp[a]
 ·by_cases b:aY N x=false
  ·simp[a,b]
  ·rw[if_neg a,if_neg b]at c;rw[if_neg a,if_neg a,if_neg b,if_neg b];by_cases d:sz N x<=room-ws.length
   ·rw[if_pos (by omega)];simp[d]
   ·simp[d]at c
theorem Fh{x:Tm N}{a:List (Tm N)}(e:(ws.length:Int)=(a.map (sz N)).sum):tF N x room a=jo N x room ws:=by
 unfold tF jo;have b:((a.map (sz N)).sum+sz N x<=room)=(sz N x<=room-ws.length):=by rw[e];exact propext ⟨λd=>by omega,λd=>by omega⟩
 by_cases c:sz N x<=room-ws.length
 ·simp[c,b]
 ·simp[c,b]
section
variable {base pb:Nat} {name:aq} {room:Int} {N:Nat} {s:Tm (N+1)} {ms:List (Tm (N+1))} {xs:List (Wd×Tm (N+1))} {nk:Nat} {M:aX} {w:ah} {ws:List Wd} {nm:bm} {sv:Wd} {vs:List Wd} {ma:ay} {mc:Nat} {Mh:aX}
theorem cW.kept(a:cW base pb name room (N+1) s ms xs nk M w ws nm sv vs ma mc Mh){S:aX}{w1:ah}(k:co S w w1)(g:∀b,M b->b<w.heap.size->¬S b):cW base pb name room (N+1) s ms xs nk M w1 ws nm sv vs ma mc Mh:=by
 refine⟨a.heap.kept k λb m c=>g b (a.inM b m) c,?_,a.has,a.len,a.names,a.inM,a.mailM⟩;rcases a.mail with i|⟨d,n,h,e,j,f,l⟩
 ·exact ak i
 ·have c:=(aS.1 f).1;exact am ⟨d,n,h,e,j,(k.block d c (g d (a.mailM _ e) c)).trans f,l⟩
theorem cW.mono(a:cW base pb name room (N+1) s ms xs nk M w ws nm sv vs ma mc Mh){M':aX}{nk':Nat}(c:∀b,M b->M' b)(g:nk<=nk'):cW base pb name room (N+1) s ms xs nk' M' w ws nm sv vs ma mc Mh:=
 ⟨a.heap,a.mail,a.has,a.len,aG a.names g,λb f=>c b (a.inM b f),λd e=>c _ (a.mailM d e)⟩
theorem cW.inside(a:cW base pb name room (N+1) s ms xs nk M w ws nm sv vs ma mc Mh):cW base pb name room (N+1) s ms xs nk (λb=>M b/\b<w.heap.size) w ws nm sv vs ma mc (λb=>Mh b/\b<w.heap.size):=by
 refine⟨a.heap.inside,?_,a.has,a.len,a.names,λb k=>⟨a.inM b k.1,k.2⟩,λm c=>⟨a.mailM m c,?_⟩⟩
 ·rcases a.mail with d|⟨j,l,g,e,h,f,i⟩
  ·exact ak d
  ·exact am ⟨j,l,g,e,λn=>h n.1,f,i⟩
 ·rcases a.mail with⟨d,_⟩|⟨j,l,g,e,h,f,i⟩
  ·rw[d]at c;cases c
  ·rw[e]at c;injection c with c;rw[<-c];exact(aS.1 f).1
def zK(N:Nat)(x:Tm N)(base:Nat)(b:cR)(room:Int)(ws:List Wd)(nm:bm)(M:aX)(v:Wd)(a:Int)(w w':ah):Prop:=
 a=jo N x room ws/\(a≠0->v=(0,0)/\ap w w')/\(a=0->(bL N x=0/\aY N x=true/\sz N x<=room-ws.length)/\v=(bw N x ws nm).1/\mQ base b room (bw N x ws nm).2.1 (bw N x ws nm).2.2 M w w')
theorem AJ{N:Nat}{x:Tm N}{h:cR}{e:Ending}{w w':ah}(g:JX N x base h room ws nm M w e w'):∃(v:Wd)(f:Int),e=aw (ax #[.agg #[ae v.1,ae v.2],ae f])/\zK N x base h room ws nm M v f w w':=by
 by_cases a:jo N x room ws=0
 ·obtain⟨b,c,i⟩:=g.2 a;exact⟨_,0,c,a.symm,λd=>absurd rfl d,λ_=>⟨b,rfl,i⟩⟩
 ·obtain⟨b,c⟩:=g.1 a;exact⟨(0,0),_,b,rfl,λ_=>⟨rfl,c⟩,λd=>absurd d a⟩
theorem ed.nodup{c:cR}(a:ed base c room ws nm M w):nm.Nodup:=by
 obtain⟨_,_,_,_,_,b,_⟩:=a;exact b.2.1
theorem cW.put1(d:cW base pb name room (N+1) s ms [] nk M w ws nm sv vs ma mc Mh){x:Tm (N+1)}{v:Wd}{e:Int}{w':ah}(t:zK (N+1) x base (PL pb name sv (af ma vs.length mc)) room ws nm Mh v e w w'):∃A z m,cW base pb name room (N+1) s ms (if e=0 then [(v,x)]else []) (nk+201) (λb=>M b\/w.heap.size<=b) w' A z sv vs ma mc m/\co M w w':=by
 obtain⟨f1,f2,f3⟩:=t;by_cases f:e=0
 ·obtain⟨c,rfl,k,l⟩:=f3 f;rw[if_pos f];have D:=(jg (N+1) x ws nm).2;have C:=jQ c.1;have B:=d.names;refine⟨_,_,λb=>Mh b\/w.heap.size<=b,⟨k,?_,?_,d.len,by omega,?_,λn r=>ak (d.mailM n r)⟩,l.mono d.inM⟩
  ·rcases d.mail with p|⟨j,y,o,e,h,i,q⟩
   ·exact ak p
   ·have u:=(aS.1 i).1;refine am ⟨j,y,o,e,λa=>?_,(l.block j u h).trans i,q⟩;rcases a with a|a
    ·exact h a
    ·omega
  ·have:=d.has;simp only[dB,eF]at this;exact this.lay x c k.nodup
  ·intro b g;rcases g with a|a
   ·exact ak (d.inM b a)
   ·exact am a
 ·obtain⟨_,g⟩:=f2 f;rw[if_neg f];exact⟨ws,nm,Mh,(d.later g).mono (λb a=>ak a) (by omega),bC g M⟩
def QE(base pb:Nat)(name:aq)(room:Int)(N:Nat)(s:Tm N)(ms:List (Tm N))(x:Tm N)(nk:Nat)(M:aX)(w:ah)(e:Ending)(w':ah):Prop:=
 ∃a:Wd,e=aw (ax #[.agg #[ae a.1,ae a.2],ae (tF N x room (s::ms))])/\Hid (∃j g h i d f c,cW base pb name room N s ms (if tF N x room (s::ms)=0 then [(a,x)]else []) (nk+201) (λb=>M b\/w.heap.size<=b) w' j g h i d f c/\co M w w')
theorem cW.put(y:cW base pb name room (N+1) s ms [] nk M w ws nm sv vs ma mc Mh)(x:Tm (N+1))(ad:In w.heap.size w (N+1) x)(az:cG (λb=>¬M b) (N+1) x)(ao:(aI (N+1) x).length<=2097152)(G:∀b,M b->b<w.heap.size)(aQ:nk<=94000)(aj:ms.length<=999)(aO:base<=w.heap.size):au 185 #[aF pb,dG (N+1) x] w (QE base pb name room (N+1) s ms x nk M w):=by
 have aP:=y.len;have aR:=y.names;have aq:=y.front;obtain⟨_,_,_,aG,aU,aH,aJ,_⟩:=aq;have Z:=In.offB az ad
 have aa:∀{f:ah}{D:List Wd}{B:Wd}{C:List Wd}{z:ay}{A:Nat}{q P:aX},cW base pb name room (N+1) s ms [] nk P f D nm B C z A q->co M w f->(∀b,P b->M b\/w.heap.size<=b)->
   au 123 #[.pointer (some ⟨pb,1,none⟩),dG (N+1) x] f λE g=>∃(e:Wd)(d:Int),E=aw (ax #[.agg #[ae e.1,ae e.2],ae d])/\zK (N+1) x base (PL pb name B (af z C.length A)) room D nm q e d f g:=by
  intro f D B C z A q P r ag an;have aC:=ag.size;obtain⟨_,_,_,_,aV,aW,aY,_⟩:=r.front;have aD:In f.heap.size f (N+1) x:=(In.off (λb (c:¬M b/\b<w.heap.size)=>ag.block b c.2 c.1) Z ad).mono aC;have aB:cG (λb=>¬q b) (N+1) x:=Z.mono λb c a=>by
   rcases an b (r.inM b a)with t|t
   ·exact c.1 t
   ·have:=c.2;omega
  exact(we (N+1) x base (PL pb name B (af z C.length A)) room D nm q f r.heap aD aB ao (by omega) aH aJ (by omega) (by omega)).mono λE g a=>AJ a
 have T:∀{n:Nat}{V:aX}{j g:ah},co V j g->(∀b,n<=b->b<n+3->b<j.heap.size->¬V b)->Up n j g:=λk ap=>⟨k.size,λb u O F=>k.block b F (ap b u O F)⟩;have Y:∀{e:Wd}{d:Int}{j g:ah}{D:List Wd}{B:Wd}{C:List Wd}{z:ay}{A:Nat}{q:aX},zK (N+1) x base (PL pb name B (af z C.length A)) room D nm q e d j g->co q j g:=λ{e d j g D B C z A q} a=>by
  by_cases W:d=0
  ·exact(a.2.2 W).2.2.2
  ·exact bC (a.2.1 W).2 _
 refine(CZ pb x.1.1 x.1.2.1 x.1.2.2 x.2.1.1 x.2.2.length x.2.1.2 w (λe d j g=>zK (N+1) x base (PL pb name sv (af ma vs.length mc)) room ws nm Mh e d j g)
  (λH I=>co M w I/\H.heap.size<=I.heap.size/\∃l p i o m,cW base pb name room (N+1) s ms [] nk (λb=>M b\/H.heap.size<=b) I l nm p i o i.length m/\(l.length:Int)=((s::ms).map (sz (N+1))).sum)
  (λe d f U=>co M w f/\w.heap.size+3<=f.heap.size/\∃l p i o m,cW base pb name room (N+1) s ms [] nk (λb=>M b\/w.heap.size+3<=b) f l nm p i o i.length m/\(l.length:Int)=((s::ms).map (sz (N+1))).sum/\zK (N+1) x base (PL pb name p (af o i.length i.length)) room l nm m e d f U) ?_ ?_ ?_).mono ?_
 ·intro j c;refine(aa (y.later c) (bC c M) λb a=>ak a).mono ?_;rintro E g ⟨e,d,rfl,h⟩;refine⟨e,d,rfl,T (Y h) λb u _ _ a=>?_,h⟩;have:=G b (y.inM b a);omega
 ·intro aM j g H c h v aE;have X:=(h.2.1 (by decide)).2;have ab:=c.size;have O:=((y.later c).later X).kept v λb a _ t=>by
   have:=G b a;omega
  have ar:co M w H:=co.trans ((bC c M).trans (bC X M) λ_ _ a=>a) v λb Q a=>by omega
  refine(O.tidy (by omega) aj (by omega)).mono ?_;rintro E I ⟨rfl,l,p,i,o,m,F,K,S⟩;refine⟨rfl,T K λb u _ _ a=>?_,ar.trans K λ_ _ a=>a,K.size,l,p,i,o,m,F,S⟩;have:=G b a;omega
 ·rintro H I f ⟨K,aS,l,p,i,o,m,F,S⟩ aE c
  have r:=(F.later c).mono (M':=λb=>M b\/w.heap.size+3<=b) (nk':=nk) (λb a=>by
   rcases a with a|a
   ·exact ak a
   ·exact am (by omega)) (aA _)
  have L:co M w f:=K.trans (bC c M) λ_ _ a=>a
  refine(aa r L λb a=>by
   rcases a with a|a
   ·exact ak a
   ·exact am (by omega)).mono ?_
  rintro E U ⟨e,d,rfl,h⟩;refine⟨e,d,rfl,T (Y h) λb u O _ a=>?_,L,by have:=c.size;omega,l,p,i,o,m,r,S,h⟩;rcases r.inM b a with t|t
  ·have:=G b t;omega
  ·omega
 ·rintro E aZ ⟨e,d,rfl,⟨al,j,g,c,h,v⟩|⟨aM,j,g,H,I,f,U,_,_,_,_,_,_,⟨L,aT,l,p,i,o,m,r,av,h⟩,v⟩⟩
  ·have ab:=c.size;have J:d=tF (N+1) x room (s::ms):=by
    rw[Fi (ws:=ws) (by rw[<-h.1];exact al) aG];exact h.1
   obtain⟨l,aK,m,u,R⟩:=(y.later c).put1 h;refine⟨e,by rw[<-J],l,aK,sv,vs,ma,mc,m,?_,?_⟩
   ·rw[<-J];refine(u.kept v λb a _ t=>?_).mono (λb a=>?_) (aA _)
    ·rcases a with a|a
     ·have:=G b a;omega
     ·omega
    ·rcases a with a|a
     ·exact ak a
     ·exact am (by omega)
   ·exact co.trans ((bC c M).trans R λ_ _ a=>a) v λb Q a=>by omega
  ·have ab:=L.size;have J:d=tF (N+1) x room (s::ms):=by
    rw[Fh av];exact h.1
   obtain⟨aN,aL,ai,u,R⟩:=r.put1 h;refine⟨e,by rw[<-J],aN,aL,p,i,o,i.length,ai,?_,?_⟩
   ·rw[<-J];refine(u.kept v λb a _ t=>?_).mono (λb a=>?_) (aA _)
    ·subst t;rcases a with(a|a)|a
     ·have:=G _ a;omega
     ·omega
     ·omega
    ·rcases a with(a|a)|a
     ·exact ak a
     ·exact am (by omega)
     ·exact am (by omega)
   ·refine co.trans (L.trans R λb Q a=>?_) v λb Q a=>by omega
    rcases a with a|a
    ·exact a
    ·omega
end
theorem uA(vs:List Wd)(v:Wd):bA (vs++ [v])=bA vs++qG v:=by simp[bA]
theorem pq{P:Program}(w:ah)(t ty e:TypeId)(i:TypeInfo)(y:P.underlying t=some (.slice e))(s:P.info? e=some i)(g f d l:Nat)(h:Array az)(r:w.heap[g]?=some (.cells h e (0,0)))(a:Addr)(m c:Nat)(b:dI)(u:b.length=m*i.size)(v:∀j k,b[j]?=some k->w.cell? (a.add j)=some k)(o:∀k∈b,k.oneCell'=true)(x:d+m<=l)(q:f+d*i.size+b.length<=h.size):(Builtin.append_ #[t,t] ty #[af (some ⟨g,f,none⟩) d l,af (some a) m c]).run P w= .ok (af (some ⟨g,f,none⟩) (d+m) l) (w.setRow g (h.toList.take (f+d*i.size)++b++h.toList.drop (f+d*i.size+b.length)).toArray):=by
 have p:=run_firstCells_some (P:=P) w i.size m a m c b u v;have n:=qp P g (f+d*i.size) e b 0 h w r (by simpa using q) o;simp only[jD]at n;simp[Builtin.append_,cM y,sizeOf,typeInfo,s,Builtin.lenOf,x,p,eT,n]
def rP(Mh:aX)(ma:ay)(vs:List Wd)(w:ah)(d:ay)(e:Nat)(w':ah):Prop:=
 kw Mh d vs e w'/\co (λb=>∃a,ma=some a/\b=a.block) w w'/\∀a,d=some a->(∃c,ma=some c/\a.block=c.block)\/a.block=w.heap.size
theorem LQ{S:aX}(w:ah)(g:Nat)(cs:Array az)(a:∀b,b=g->S b):co S w (w.setRow g cs):=⟨rfl,rfl,rfl,by simp,λ_ _ c=>setRow_other _ _ _ _ λe=>c (a _ e)⟩
theorem wJ(a:List Wd)(C old:Nat)(c:az)(k:c.cells.size=2)(o:old=a.length)(e:a.length<=C)(f:C<=maxLen)(g:∀b,Mh b->b<w.heap.size):rP Mh ma a w (some ⟨w.heap.size,0,none⟩) C (w.drew.alloc (.cells ((bA a).toArray++Builtin.zeroCells c.cells (C-old)) 184)):=by
 have d:∀b,b<w.heap.size->(w.drew.alloc (.cells ((bA a).toArray++Builtin.zeroCells c.cells (C-old)) 184)).heap[b]?=w.heap[b]? :=λb d=>Below.heap_alloc w.drew _ b d;have j:(w.drew.alloc (.cells ((bA a).toArray++Builtin.zeroCells c.cells (C-old)) 184)).heap[w.heap.size]?=some (.cells ((bA a).toArray++Builtin.zeroCells c.cells (C-old)) 184):=aL w.drew _;refine⟨am ⟨w.heap.size,0,_,rfl,λl=>?_,j,e,f,?_,?_⟩,⟨rfl,rfl,rfl,?_,λb i _=>d b i⟩,λm h=>am (congrArg Addr.block (aJ h).symm)⟩
 ·have:=g _ l;omega
 ·rw[Array.size_append,size_zeroCells,k,fN,cQ];omega
 ·rw[List.drop_zero,Array.toList_append,ku (by rw[qk,cQ];omega),qk,bI (by rw[cQ];omega)]
 ·have:=fP w.drew (.cells ((bA a).toArray++Builtin.zeroCells c.cells (C-old)) 184);have n:w.drew.heap.size=w.heap.size:=rfl;omega
theorem uN(ty:TypeId)(l:kw Mh ma vs d w)(N:vs.length<=1000)(u:∀b,Mh b->b<w.heap.size)(sa:Addr)(c:Nat)(v:Wd)(q:∀j k,(qG v)[j]?=some k->w.cell? (sa.add j)=some k):∃B C w',(Builtin.append_ #[187,187] ty #[af ma vs.length d,af (some sa) 1 c]).run Tryz.prog w=.ok (af B (vs.length+1) C) w'/\rP Mh ma (vs++ [v]) w B C w':=by
 obtain⟨o,hit,z,h,A⟩:=bT lV;have K:∀k∈qG v,k.oneCell'=true:=by simp[qG,Value.oneCell']
 have i:(qG v).length=2:=rfl;rcases l with⟨rfl,rfl,rfl⟩|⟨f,a,e,rfl,r,n,E,s,F,t⟩
 ·have m:=run_append_nil (P:=Tryz.prog) w 187 ty 184 o _ underlying187 hit z sa 1 c (qG v) (by rw[i,h]) q (by omega) (by omega) (by rw[A];omega);refine⟨_,_,_,m,?_⟩;have l:=wJ (Mh:=Mh) (ma:=none) (w:=w) [v] (grownCap w 1 0 184) 1 (.agg #[ae 0,ae 0]) rfl rfl (grownCap_ge w 1 0 _) (grownCap_le_maxLen w 1 0 _ (by unfold maxLen;omega)) u;simpa [bA]using l
 ·have O:=(aS.1 n).1;by_cases L:vs.length+1<=d
  ·have x:a+vs.length*o.size+(qG v).length<=e.size:=by rw[i,h];omega
   have m:=pq (P:=Tryz.prog) w 187 ty 184 o underlying187 hit f a vs.length d e n sa 1 c (qG v) (by rw[i,h]) q K L x;refine⟨_,_,_,m,am ⟨f,a,_,rfl,r,setRow_heap w f e _ _ _ n,?_,s,?_,?_⟩,?_,λM G=>ak ⟨_,rfl,?_⟩⟩
   ·simp only[br,bv,eW];omega
   ·have p:e.toList.length=e.size:=lw;rw[h]at x ⊢;simp only[fN,br,du,eV,p];omega
   ·rw[h];have Q:(e.toList.take (a+vs.length*2)).length=a+vs.length*2:=by
     have p:e.toList.length=e.size:=lw;rw[du,p];omega
    have I:(e.toList.take (a+vs.length*2)).drop a=bA vs:=by
     rw[List.drop_take,Nat.add_sub_cancel_left];exact t
    rw[uA,lB,p9 (by omega),I];have g:(vs++ [v]).length*2=(bA vs).length+2:=by
     rw[cQ];simp only[br,bv,eW];omega
    rw[g,List.take_length_add_append,ku (by rw[i];omega),bI (by rw[i];omega)]
   ·exact LQ w f _ λb g=>⟨_,rfl,g⟩
   ·exact congrArg Addr.block (aJ G).symm
  ·have m:=run_append_grow (P:=Tryz.prog) w 187 ty 184 o _ underlying187 hit z ⟨f,a,none⟩ vs.length d (bA vs) (by rw[cQ,h]) (λj k y=>by
     have J:kw Mh (some ⟨f,a,none⟩) vs d w:=am ⟨f,a,e,rfl,r,n,E,s,F,t⟩;rcases J.words with g|⟨ad,g,H⟩
     ·subst g;simp[bA]at y
     ·have D:=aJ g;rw[D]
      exact H j k y) sa 1 c (qG v) (by rw[i,h]) q (by omega) (by omega) (growslice_fits (by omega) (by rw[A];omega))
   refine⟨_,_,_,m,?_⟩;have l:=wJ (Mh:=Mh) (ma:=some ⟨f,a,none⟩) (w:=w) (vs++ [v]) (grownCap w (vs.length+1) d 184) (vs.length+1) (.agg #[ae 0,ae 0]) rfl (by simp) (by have:=grownCap_ge w (vs.length+1) d 184;simpa using this) (grownCap_le_maxLen w _ _ _ (by unfold maxLen;omega)) u;simpa [uA]using l
theorem xR{x':az}{o:Oper}{a:Act}(s x:Operand)(c:o.op=.call {callee:=.builtin .append,args:= #[s,x],argTypes:= #[187,187]})(e:a.eval s=v)(f:a.eval x=x')(d:(Builtin.append_ #[187,187] o.type #[v,x']).run Tryz.prog w=.ok u w')(b:K (a.put o.dst u) w'):Oper.wp Tryz.prog o a w K Q:=by
 unfold Oper.wp execOp;simp only[c,resolve,invoke,builtin,jF,jG,jE,jB,bB,dB,e,f,d];exact b
theorem r8(g:Nat)(k i:Int)(t:aq)(B:ay)(D C:Nat)(L aK:Nat)(ma:ay)(w:ah)(E:Wd->Int->ah->bF)(H:Wd->ah->ah->ay->Nat->bF)(aW:g<w.heap.size)(Z:Hid (∀w1,ap w w1->ai w1 g 7 (af ma L aK)))(ab:Hid (∀w0,ap w w0->au 185 #[aF g,aB k i t B D C] w0 λe w1=>∃(v:Wd)(h:Int),e=aw (ax #[.agg #[ae v.1,ae v.2],ae h])/\Hid (Up w.heap.size w0 w1/\E v h w0 w1)))(ad:Hid (∀v w0 w1,E v 0 w0 w1->∃q r,Hid (∀w2,ap w1 w2->ai w2 g 7 (af q L r)/\∀j,w2.frozen? ⟨g,j,none⟩=false)/\Hid (∀w2,ap w1 w2->∀(sa:Addr)(c:Nat),(∀j M,(qG v)[j]?=some M->w2.cell? (sa.add j)=some M)-> ∃m n d,(Builtin.append_ #[187,187] 187 #[af q L r,af (some sa) 1 c]).run Tryz.prog w2=.ok (af m (L+1) n) d/\ai d g 7 (af q L r)/\(∀j,d.frozen? ⟨g,j,none⟩=false)/\(∀b,w1.heap.size<=b->b<w2.heap.size->d.heap[b]?=w2.heap[b]?)/\H v w0 w2 m n d))):au 162 #[aF g,aB k i t B D C] w λe w'=> (20<=L->e=aw (ae 2)/\ap w w')/\(L<20->∃(v:Wd)(h:Int)(w0 w1:ah),e=aw (ae h)/\ap w w0/\E v h w0 w1/\(h≠0->ap w1 w')/\(h=0->∃w2 m n d,ap w1 w2/\H v w0 w2 m n d/\w'=(d.setCell ⟨g,7,none⟩ (af m (L+1) n)))):=by
 have aa:=av (yH w (.cells #[ae k,ae i,ag t,af B D C] 54) rfl);have F:Hid (ap w (w.alloc (.cells #[ae k,ae i,ag t,af B D C] 54))/\(w.alloc (.cells #[ae k,ae i,ag t,af B D C] 54)).heap.size=w.heap.size+1):=⟨by go_grown,by simp⟩;go_enter func162,ntmps162;have T:=Z w (aH _ _);rcases Nat.lt_or_ge L 20 with ao|ao
 ·have ar:¬(20:Int)<=(L:Int):=by omega
  have Q:=av (ab _ F.1);go_wp2_with fail;refine Q.mono ?_;rintro e w1 ⟨v,h,rfl,N⟩;have R:Hid (∃w0,ap w w0/\E v h w0 w1):=⟨_,F.1,N.2⟩;obtain⟨w0,s⟩:=R.out;replace s:=av s;clear R N Q aa F T;by_cases K:h=0;rotate_left
  ·have aU:¬(0:Int)=h:=λe=>K e.symm;go_wp2_with fail;exact aE (v:=ae h) (by simp[results,results162,go_sem]) rfl ⟨λa=>by omega,λ_=>⟨v,h,w0,w1,rfl,s.1,s.2,λ_=>bf,λa=>absurd a K⟩⟩
  ·subst K;obtain⟨q,r,aj,ak⟩:=ad v w0 w1 s.2;have S:Hid (∃w2 f,(w2=w1.alloc (.cells #[ae v.1,ae v.2] 184)/\f=w1.heap.size)/\ap w1 w2/\w2.heap[f]?=some (.cells #[ae v.1,ae v.2] 184)/\w1.heap.size<=f):=⟨_,_,⟨rfl,rfl⟩,bf,aL _ _,aA _⟩;go_wp2_with fail;obtain⟨w2,f,⟨Y,W⟩,o⟩:=S.out;rw[<-Y,<-W];replace o:=av o;clear Y W S;have z:Hid (∀w':ah,ap w2 w'->(ai w' g 7 (af q L r)/\∀j,w'.frozen? ⟨g,j,none⟩=false)/\ai w' f 0 (ae v.1)/\ai w' f 1 (ae v.2)):=λw' a=>by
    have A:=(a.block f (aS.1 o.2.1).1).trans o.2.1;exact⟨aj _ (o.1.trans (a.mono o.1.size)),aD A 0,aD A 1⟩
   obtain⟨⟨T,aR⟩,aX,aY⟩:=z.out w2 (aH _ _);have P:Hid (ap w2 w2.drew):=(aH _ _).drew;have y:Hid (ap w2 (w2.alloc (.cells #[ae v.1,ae v.2] 184)).drew):=(show Below _ _ _ by go_grown);have O:Hid (∃m n d,(Builtin.append_ #[187,187] 187 #[af q L r,af (some ⟨w2.heap.size,0,none⟩) 1 1]).run Tryz.prog (w2.alloc (.cells #[ae v.1,ae v.2] 184)).drew=.ok (af m (L+1) n) d/\ai d g 7 (af q L r)/\(∀j,d.frozen? ⟨g,j,none⟩=false)/\(ai d f 0 (ae v.1)/\ai d f 1 (ae v.2))/\∃G,ap w1 G/\H v w0 G m n d):=by
    have V:=o.1.trans (y.mono o.1.size);have aI:=sx w2 (.cells #[ae v.1,ae v.2] 184) rfl
    obtain⟨m,n,d,aM,aN,aO,aP,aQ⟩:=ak _ V ⟨w2.heap.size,0,none⟩ 1 (λj M aG=>by
     rw[eT,cC];refine(aD aI j).trans ?_;rw[<-aG,<-List.getElem?_toArray]
     rfl)
    have X:=(aS.1 o.2.1).1;have A:=(aP f o.2.2 (bi X y.size)).trans ((y.block f X).trans o.2.1);exact⟨m,n,d,aM,aN,aO,⟨aD A 0,aD A 1⟩,_,V,aQ⟩
   obtain⟨m,n,d,J,am,an,aJ,I⟩:=O.out;replace J:=av J;replace I:=av I;clear O;have x:w2.drew.cell? ⟨g,7,none⟩=some (af q L r)/\w2.drew.cell? ⟨f,0,none⟩=some (ae v.1)/\w2.drew.cell? ⟨f,1,none⟩=some (ae v.2):=⟨(z _ P).1.1,(z _ P).2⟩;have al:Hid ((w2.alloc (.cells #[ae v.1,ae v.2] 184)).drew.cell? ⟨g,7,none⟩=some (af q L r)/\(w2.alloc (.cells #[ae v.1,ae v.2] 184)).drew.cell? ⟨f,0,none⟩=some (ae v.1)/\(w2.alloc (.cells #[ae v.1,ae v.2] 184)).drew.cell? ⟨f,1,none⟩=some (ae v.2)):=⟨(z _ y).1.1,(z _ y).2⟩;refine wp_region_noPanic ?_;refine ki (λw'=>ai w' g 7 (af q L r)/\ai w' f 0 (ae v.1)/\ai w' f 1 (ae v.2)) 10 (by kernel_rfl) ?_
   try simp only[fN]
   refine bt (i:=0) (v:= ?_) rfl (by kernel_rfl) (by kernel_rfl) (by kernel_rfl) (by kernel_rfl) (λ_ _ _ a=>a) rfl ?_ x ?_;rotate_left
   ·intro w' l
    try dsimp only at l
    go_simp
    try with_reducible rfl
   try simp only[Act.put,cu]
   refine bt (i:=1) (v:= ?_) rfl (by kernel_rfl) (by kernel_rfl) (by kernel_rfl) (by kernel_rfl) (λ_ _ _ a=>a) rfl ?_ x ?_;rotate_left
   ·intro w' l
    try dsimp only at l
    go_simp
    try with_reducible rfl
   try simp only[Act.put]
   refine bt (i:=2) (v:= ?_) rfl (by kernel_rfl) (by kernel_rfl) (by kernel_rfl) (by kernel_rfl) (λ_ _ _ a=>a) rfl ?_ x ?_;rotate_left
   ·intro w' l
    try dsimp only at l
    go_simp
    try with_reducible rfl
   try simp only[Act.put]
   refine bt (i:=3) (v:= ?_) rfl (by kernel_rfl) (by kernel_rfl) (by kernel_rfl) (by kernel_rfl) (λ_ _ _ a=>a) rfl ?_ x ?_;rotate_left
   ·intro w' l
    try dsimp only at l
    go_simp
    try with_reducible rfl
   try simp only[Act.put]
   refine bt (i:=4) (v:= ?_) rfl (by kernel_rfl) (by kernel_rfl) (by kernel_rfl) (by kernel_rfl) (λ_ _ _ a=>a) rfl ?_ x ?_;rotate_left
   ·intro w' l
    try dsimp only at l
    go_simp
    try with_reducible rfl
   try simp only[Act.put]
   refine bt (i:=5) (v:= ?_) rfl (by kernel_rfl) (by kernel_rfl) (by kernel_rfl) (by kernel_rfl) (λ_ _ _ a=>a) rfl ?_ x ?_;rotate_left
   ·intro w' l
    try dsimp only at l
    go_simp
    try with_reducible rfl
   try simp only[Act.put]
   refine dx (i:=6) (by kernel_rfl) rfl rfl (λu p=>?_) (by decide)
   go_simp
   refine p _ _ (λ_=>al) (λaV=>?_);clear p u
   try simp only[Act.put,cu,dK,dJ]
   refine dx (i:=7) (by kernel_rfl) rfl rfl (λu p=>?_) (by decide);refine xR (v:=af q L r) (x':=af (some ⟨w2.heap.size,0,none⟩) 1 1) _ _ rfl (by simp[Act.eval]) (by simp[Act.eval]) J ?_;refine p _ _ (λ_=>⟨am,aJ⟩) (λU=>?_);clear p u
   try simp only[Act.put,cu]
   refine dx (i:=8) (by kernel_rfl) rfl rfl (λu p=>?_) (by decide)
   go_simp
   refine p _ _ (λ_=>U) (λ_=>?_);clear p u
   try simp only[Act.put,cu,dK,dJ]
   refine bt (i:=9) (v:= ?_) rfl (by kernel_rfl) (by kernel_rfl) (by kernel_rfl) (by kernel_rfl) (λ_ _ _ a=>a) rfl ?_ U ?_;rotate_left
   ·intro w' l
    try dsimp only at l
    go_simp
    try with_reducible rfl
   try simp only[Act.put,cu]
   have aT:=an 7;refine kh (by kernel_rfl) rfl rfl (by kernel_rfl) (λu p=>?_)
   go_simp
   refine p _ _ (NoPanic.normal ?_);clear p u
   try simp only[Act.put,cu,dK,dJ]
   go_wp2_with fail;obtain⟨G,az,aC⟩:=I;exact aE (v:=ae 0) (by simp[results,results162,go_sem]) rfl ⟨λa=>by omega,λ_=>⟨v,0,w0,w1,rfl,s.1,s.2,λa=>absurd rfl a,λ_=>⟨G,m,n,d,az,aC,rfl⟩⟩⟩
 ·have ar:(20:Int)<=(L:Int):=by omega
  go_wp2_with fail;exact aE (v:=ae 2) (by simp[results,results162,go_sem]) rfl ⟨λ_=>⟨rfl,F.1⟩,λa=>by omega⟩
section
variable {base pb:Nat} {name:aq} {room:Int} {N:Nat} {s:Tm (N+1)} {ms:List (Tm (N+1))} {xs:List (Wd×Tm (N+1))} {nk:Nat} {M:aX} {w:ah} {ws:List Wd} {nm:bm} {sv:Wd} {vs:List Wd} {ma:ay} {mc:Nat} {Mh:aX}
def Ae(N:Nat)(x:Tm N)(room:Int)(s:Tm N)(ms:List (Tm N)):Int:=if 20<=ms.length then 2 else tF N x room (s::ms)
theorem cW.box0(a:cW base pb name room (N+1) s ms xs nk M w ws nm sv vs ma mc Mh):Mh pb/\pb<w.heap.size:=by
 obtain⟨f,d,e,b,_⟩:=a.heap.box;obtain⟨_,_,_,_,_,_,c,_⟩:=a.heap;exact⟨c,(PL.cells b).2.2.2.2.2⟩
theorem cW.more{v:Wd}{x:Tm (N+1)}(a:cW base pb name room (N+1) s ms [(v,x)] nk M w ws nm sv vs ma mc Mh){g:ay}{h:Nat}{i:ah}(C:rP Mh ma (vs++ [v]) w g h i):cW base pb name room (N+1) s (ms++ [x]) [] nk (λb=>M b\/w.heap.size<=b) (i.setCell ⟨pb,7,none⟩ (.slice g (vs++ [v]).length h)) ws nm sv (vs++ [v]) g h Mh/\co M w (i.setCell ⟨pb,7,none⟩ (.slice g (vs++ [v]).length h)):=by
 obtain⟨E,r,F⟩:=C;obtain⟨q,G⟩:=a.box0;have D:∀d,ma=some d->¬Mh d.block:=λd c f=>by
  rcases a.mail with⟨e,_⟩|⟨m,t,o,l,j,_⟩
  ·rw[e]at c;cases c
  ·rw[l]at c;rw[<-aJ c]at f;exact j f
 have A:ed base (PL pb name sv (af ma vs.length mc)) room ws nm Mh i:=a.heap.kept r λb n _ f=>by
  obtain⟨d,c,rfl⟩:=f;exact D d c n
 have k:=bJ i pb 7 (.slice g (vs++ [v]).length h);refine⟨⟨A.turn k λI H mp B=>?_,?_,?_,?_,a.names,λb n=>ak (a.inM b n),λd c=>?_⟩,?_⟩
 ·unfold World.setCell;simp[bS,B]
 ·rcases E with e|⟨m,t,o,l,j,p,y⟩
  ·exact ak e
  ·exact am ⟨m,t,o,l,j,(k.block m (aS.1 p).1 λe=>j (by rw[e];exact q)).trans p,y⟩
 ·have:=a.has;simpa using this
 ·simp[a.len]
 ·rcases F d c with⟨u,z,e⟩|e
  ·rw[e];exact ak (a.mailM u z)
  ·exact am (by omega)
 ·refine co.trans (r.mono λb f=>?_) k λb _ f=>?_
  ·obtain⟨d,c,rfl⟩:=f;exact a.mailM d c
  ·rw[f];exact a.inM pb q
def Qw(base pb:Nat)(name:aq)(room:Int)(N:Nat)(s:Tm N)(ms:List (Tm N))(x:Tm N)(nk:Nat)(M:aX)(w:ah)(e:Ending)(w':ah):Prop:=
 e=aw (ae (Ae N x room s ms))/\Hid (∃i f g h c d a,cW base pb name room N s (if Ae N x room s ms=0 then ms++ [x]else ms) [] (nk+201) (λb=>M b\/w.heap.size<=b) w' i f g h c d a/\co M w w')
theorem cW.deliver(z:cW base pb name room (N+1) s ms [] nk M w ws nm sv vs ma mc Mh)(x:Tm (N+1))(av:In w.heap.size w (N+1) x)(an:cG (λb=>¬M b) (N+1) x)(ag:(aI (N+1) x).length<=2097152)(L:∀b,M b->b<w.heap.size)(al:nk<=94000)(ad:ms.length<=999)(aK:base<=w.heap.size):au 162 #[aF pb,dG (N+1) x] w (Qw base pb name room (N+1) s ms x nk M w):=by
 have aN:=z.len;obtain⟨aO,aq⟩:=z.box0
 refine(r8 pb x.1.1 x.1.2.1 x.1.2.2 x.2.1.1 x.2.2.length x.2.1.2 vs.length mc ma w
  (λh r p q=>r=tF (N+1) x room (s::ms)/\co M w q/\w.heap.size<=p.heap.size/\∃o m n i g k j,cW base pb name room (N+1) s ms (if r=0 then [(h,x)]else []) (nk+201) (λb=>(M b\/p.heap.size<=b)/\b<q.heap.size) q o m n i g k j)
  (λh p v E F G=>co M w v/\w.heap.size<=p.heap.size/\∃o m n i g k j,cW base pb name room (N+1) s ms [(h,x)] (nk+201) (λb=>M b\/p.heap.size<=b) v o m n i g k j/\rP j g (i++ [h]) v E F G) aq ?_ ?_ ?_).mono ?_
 ·intro q e;obtain⟨X,V,W,f,_⟩:=(z.later e).heap.box;exact(PL.cells f).2.2.2.1
 ·intro p e;have D:=e.size;refine((z.later e).put x ((av.below e).mono D) an ag (λb d=>bi (L b d) D) al ad (by omega)).mono ?_;rintro y q ⟨h,rfl,o,m,n,i,g,k,j,f,u⟩;refine⟨h,_,rfl,⟨u.size,λb ax _ az=>u.block b az λd=>?_⟩,rfl,(bC e M).trans u λ_ _ d=>d,D,o,m,n,i,g,k,_,f.inside⟩;have:=L b d;omega
 ·rintro h p q ⟨J,u,T,o,m,n,i,g,k,j,f⟩;rw[if_pos rfl]at f;have aL:=f.len;have I:i.length=vs.length:=by omega
  refine⟨g,k,λv e=>?_,λv e sa c ar=>?_⟩
  ·obtain⟨X,V,W,l,_⟩:=(f.later e).heap.box;rw[I]at l;exact⟨(PL.cells l).2.2.2.1,(PL.cells l).2.2.2.2.1⟩
  ·have t:=f.later e;have D:=e.size;obtain⟨E,F,G,S,C⟩:=uN 187 t.mail (by omega) (λb d=>bi (f.inM b d).2 D) sa c h ar;rw[I]at S;have R:∀b,(∃a,g=some a/\b=a.block)->¬j b/\b<q.heap.size:=λb d=>by
    obtain⟨a,A,rfl⟩:=d;refine⟨λZ=>?_,(f.mailM a A).2⟩;rcases f.mail with⟨y,_⟩|⟨aE,aS,aD,r,ab,_⟩
    ·rw[y]at A;cases A
    ·rw[r]at A;rw[<-aJ A]at Z;exact ab Z
   obtain⟨ao,ap⟩:=t.box0;have P:G.heap[pb]?=v.heap[pb]? :=C.2.1.block pb ap λd=>(R pb d).1 ao;obtain⟨X,V,W,l,_⟩:=t.heap.box;rw[I]at l;refine⟨E,F,G,S,(bN P 7).trans (PL.cells l).2.2.2.1,λU=>?_,λb ax ay=>C.2.1.block b ay λd=>?_,?_⟩
   ·exact(jH (a:=⟨pb,U,none⟩) P).trans ((PL.cells l).2.2.2.2.1 U)
   ·have:=(R b d).2;omega
   ·exact⟨u.trans (bC e M) λ_ _ d=>d,T,o,m,n,i,g,k,j,t.mono (λb d=>d.1) (aA _),C⟩
 ·rintro y aT ⟨af,l⟩;by_cases K:20<=ms.length
  ·obtain⟨rfl,e⟩:=af (by omega);have B:Ae (N+1) x room s ms=2:=by simp[Ae,K]
   refine⟨by rw[B],ws,nm,sv,vs,ma,mc,Mh,?_,bC e M⟩;rw[B];exact(z.later e).mono (λb d=>ak d) (by omega)
  ·obtain⟨h,r,p,q,rfl,e,⟨J,u,T,o,m,n,i,g,k,j,f⟩,aj,ah⟩:=l (by omega);have B:Ae (N+1) x room s ms=r:=by simp[Ae,K,J]
   refine⟨by rw[B],?_⟩;rw[B];by_cases H:r=0
   ·obtain⟨v,E,F,G,aH,⟨Q,_,aC,aw,aB,Y,aQ,aR,aa,t,C⟩,rfl⟩:=ah H;have aM:=t.len;have y:vs.length+1=(Y++ [h]).length:=by simp;omega
    obtain⟨ae,ai⟩:=t.more C;rw[y,if_pos H];have aP:=Q.size;refine⟨aC,aw,aB,Y++ [h],E,F,aa,ae.mono (λb d=>?_) (aA _),Q.trans ai λb aG d=>?_⟩
    ·rcases d with(d|d)|d
     ·exact ak d
     ·exact am (by omega)
     ·exact am (by omega)
    ·rcases d with d|d
     ·exact d
     ·omega
   ·have O:=aj H;rw[if_neg H]at f ⊢;refine⟨o,m,n,i,g,k,j,(f.later O).mono (λb d=>?_) (aA _),u.trans (bC O M) λ_ _ d=>d⟩;rcases d.1 with d|d
    ·exact ak d
    ·exact am (by omega)
end
theorem Ja(y:aq)(k i:Int)(t:aq)(l:ay)(n m:Nat)(room:Int)(w:ah)(r:Bool)(C:Wd->Int->ah->bF)(H:Hid (∀w1:ah,au 115 #[ag y] w1 λe w'=>e=aw (.bool r)/\w'=w1))(Q:Hid (r=true->∀w1:ah,au 112 #[ag y] w1 λe w'=>e=aw (ag y)/\ap w1 w'))(P:Hid (0<=room/\room<=1000->∀w2,HB (cR.own (w.heap.size+1)) room (af none 0 0) (af none 0 0) (.map none) w2->w2.heap.size=w.heap.size+1+1->ap w w2->au 123 #[.pointer (some ⟨w.heap.size+1,0,none⟩),aB k i t l n m] w2 λe b=>∃(v:Wd)(c:Int),e=aw (ax #[.agg #[ae v.1,ae v.2],ae c])/\Hid (∃tv lv mv,b.heap[w.heap.size+1]?=some (.cells #[ae room,tv,lv,mv] 193)/\C v c w2 b))):au 85 #[ag y,aB k i t l n m,ae room] w λe w'=> (r=false->e=aw (ax #[.pointer none,ae 5])/\ap w w')/\(r=true->¬(0<=room/\room<=1000)->e=aw (ax #[.pointer none,ae 1])/\ap w w')/\ (r=true->0<=room/\room<=1000->∃(v:Wd)(c:Int)(w2 b:ah),Hid (ap w w2/\w2.heap.size=w.heap.size+1+1/\C v c w2 b)/\(c≠0->e=aw (ax #[.pointer none,ae c])/\ap b w')/\ (c=0->∃(s:ah)(tv lv mv:az),e=aw (ax #[aF s.heap.size,ae 0])/\ap b s/\b.heap[w.heap.size+1]?=some (.cells #[ae room,tv,lv,mv] 193)/\w'=s.alloc (.cells #[ag y,ae room,tv,lv,mv,ae v.1,ae v.2,af none 0 0] 195))):=by
 have O:=av (yH w (.cells #[ae k,ae i,ag t,af l n m] 54) rfl);have o:Hid (ap w (w.alloc (.cells #[ae k,ae i,ag t,af l n m] 54))/\(w.alloc (.cells #[ae k,ae i,ag t,af l n m] 54)).heap.size=w.heap.size+1):=⟨by go_grown,by simp⟩;cases r with
 | false=>
  go_enter func85,ntmps85;go_wp2_with (go_at_call 115;refine(H _).mono ?_;rintro e w1 ⟨rfl,rfl⟩);exact aE (v:=ax #[.pointer none,ae 5]) (by simp[results,results85,go_sem]) rfl ⟨λ_=>⟨rfl,o.1⟩,λa=>(by cases a),λa=>(by cases a)⟩
 | true=>
  have R:=av (Q rfl);go_enter func85,ntmps85;go_wp2_with (go_at_call 115;refine(H _).mono ?_;rintro e w1 ⟨rfl,rfl⟩);refine(ND _ _).mono ?_;rintro e w2 ⟨p,g⟩;by_cases q:0<=room/\room<=1000;rotate_left
  ·obtain⟨rfl,rfl⟩:=p q;clear p g;go_wp2_with fail;exact aE (v:=ax #[.pointer none,ae 1]) (by simp[results,results85,go_sem]) rfl ⟨λa=>(by cases a),λ_ _=>⟨rfl,o.out.1⟩,λ_ a=>absurd a q⟩
  ·obtain⟨rfl,d⟩:=g q;clear p g;replace d:=av d;rw[o.out.2]at d;have G:Hid (ap w w2):=o.1.trans (d.2.2.mono (by first|exact fO _|exact o.1.size));have I:=av (P q w2 d.1 d.2.1 G);have x:Hid (w2.heap[w.heap.size]?=some (.cells #[ae k,ae i,ag t,af l n m] 54)):=(d.2.2.block _ (by first|(have:=o.2;omega)|simp)).trans O;have t0:ai w2 w.heap.size 0 (ae k):=aD x 0;have t1:ai w2 w.heap.size 1 (ae i):=aD x 1;have t2:ai w2 w.heap.size 2 (ag t):=aD x 2;have t3:ai w2 w.heap.size 3 (af l n m):=aD x 3;go_wp2_with fail;refine I.mono ?_;rintro e b ⟨v,c,rfl,F⟩;obtain⟨tv,lv,mv,u,z⟩:=F.out;replace u:=av u;replace z:=av (show ap w w2/\w2.heap.size=w.heap.size+1+1/\C v c w2 b from⟨G,d.2.1,z⟩);clear F I t0 t1 t2 t3 x d;by_cases E:c=0;rotate_left
   ·have S:¬(0:Int)=c:=λe=>E e.symm;go_wp2_with fail;exact aE (v:=ax #[.pointer none,ae c]) (by simp[results,results85,go_sem]) rfl ⟨λa=>(by cases a),λ_ a=>absurd q a,λ_ _=>⟨v,c,w2,b,z,λ_=>⟨rfl,bf⟩,λa=>absurd a E⟩⟩
   ·subst E;go_wp2_with fail;have J:Hid (∃j h,(j=b.alloc (.cells #[ae v.1,ae v.2] 184)/\h=b.heap.size)/\ap b j/\j.heap[h]?=some (.cells #[ae v.1,ae v.2] 184)):=⟨_,_,⟨rfl,rfl⟩,bf,aL _ _⟩;obtain⟨j,h,⟨N,M⟩,f⟩:=J.out;rw[<-N,<-M];replace f:=av f;clear N M J;have B:Hid (∀w':ah,ap j w'->w'.cell? ⟨w.heap.size+1,0,none⟩=some (ae room)/\w'.cell? ⟨w.heap.size+1,1,none⟩=some tv/\w'.cell? ⟨w.heap.size+1,2,none⟩=some lv/\w'.cell? ⟨w.heap.size+1,3,none⟩=some mv/\ai w' h 0 (ae v.1)/\ai w' h 1 (ae v.2)):=λw' a=>by
     have p:=(a.block h (aS.1 f.2).1).trans f.2;have L:=(aS.1 u).1;have g:=(a.block _ (bi L f.1.size)).trans ((f.1.block _ L).trans u);exact⟨aD g 0,aD g 1,aD g 2,aD g 3,aD p 0,aD p 1⟩
    obtain⟨T,U,V,W,X,Y⟩:=B.out j (aH _ _);have D:Hid (ap j j.drew):=(aH _ _).drew
    go_region_held3 (λw'=>w'.cell? ⟨w.heap.size+1,0,none⟩=some (ae room)/\w'.cell? ⟨w.heap.size+1,1,none⟩=some tv/\w'.cell? ⟨w.heap.size+1,2,none⟩=some lv/\w'.cell? ⟨w.heap.size+1,3,none⟩=some mv/\w'.cell? ⟨h,0,none⟩=some (ae v.1)/\w'.cell? ⟨h,1,none⟩=some (ae v.2)) (first|(go_keep;done)|with_reducible exact B _ D|exact B _ A|exact B _ (A.trans (bf.mono A.size)))
     ((go_at_call 112;refine(R _).mono ?_;rintro e s ⟨rfl,K⟩;have A:=av (D.trans (K.mono D.size));clear K))
    go_wp2_with fail;exact aE (v:=ax #[aF s.heap.size,ae 0]) (by simp[results,results85,go_sem]) rfl ⟨λa=>(by cases a),λ_ a=>absurd q a,λ_ _=>⟨v,0,w2,b,z,λa=>absurd rfl a,λ_=>⟨s,tv,lv,mv,rfl,f.out.1.trans (A.out.mono f.out.1.size),u.out,rfl⟩⟩⟩
def fx(N:Nat)(x:Tm N)(room:Int)(name:aq):Int:=if ek name=false then 5 else if¬(0<=room/\room<=1000)then 1 else jo N x room []
def PW(N:Nat)(x:Tm N)(room:Int)(name:aq)(w:ah)(e:Ending)(w':ah):Prop:=
 (fx N x room name≠0->e=aw (ax #[.pointer none,ae (fx N x room name)])/\ap w w')/\
 (fx N x room name=0->∃a,e=aw (ax #[aF a,ae 0])/\Hid (w.heap.size<=a/\ap w w'/\∃g d f c,cW w.heap.size a name room N x [] [] 201 (λb=>w.heap.size<=b/\b<w'.heap.size) w' g d f [] none 0 c))
theorem yD{s:aq}(a:ek s=true):s.size<=2048:=by
 simp only[ek,qX,aT,cV]at a;omega
theorem In.offBelow{B:Nat}{w:ah}:{n:Nat}->{x:Tm n}->In B w n x->cG (λb=>b<B) n x
 | 0,_,k=>k
 | _+1,_,k=>by
  obtain⟨_,a⟩:=k;rcases a with a|⟨b,o,e,c,a⟩
  ·exact ak a
  ·exact am ⟨b,o,e,c,λi y d=>(a i y d).2.offBelow⟩
theorem CV(N:Nat)(x:Tm (N+1))(room:Int)(name:aq)(w:ah)(ax:name.size<=9223372036854775807)(O:In w.heap.size w (N+1) x)(ai:(aI (N+1) x).length<=2097152):au 85 #[ag name,dG (N+1) x,ae room] w (PW (N+1) x room name w):=by
 refine(Ja name x.1.1 x.1.2.1 x.1.2.2 x.2.1.1 x.2.2.length x.2.1.2 room w (ek name) (λe l o p=>ap w p/\zK (N+1) x w.heap.size (cR.own (w.heap.size+1)) room [] [] (λb=>b=w.heap.size+1) e l o p) ?_ ?_ ?_).mono ?_
 ·intro D;exact jf name D ax
 ·intro a D;exact ew name D (yD a)
 ·intro d o H aH m;have s:=m.size;have aa:ed w.heap.size (cR.own (w.heap.size+1)) room [] [] (λb=>b=w.heap.size+1) o:=⟨af none 0 0,af none 0 0,.map none,H,eX _ _ _ _,⟨eX _ _ _ _,by simp,ak ⟨rfl,rfl,rfl⟩⟩,rfl,λb f=>by simp[Value.ownBlock]at f,λb f=>by simp[Value.ownBlock]at f,λb f=>by simp[mapBlock]at f⟩;refine(we (N+1) x w.heap.size (cR.own (w.heap.size+1)) room [] [] (λb=>b=w.heap.size+1) o aa ((O.below m).mono s) ((In.offBelow O).mono λb c f=>by omega) ai s d.1 d.2 (by simp) (by simp)).mono ?_;intro f p aw;obtain⟨e,l,rfl,i⟩:=AJ aw;have I:∀{E:aX},co E o p->(∀b,E b->w.heap.size<=b)->ap w p:=λk aj=>⟨k.os.trans m.os,k.tape.trans m.tape,k.output.trans m.output,aG s k.size,λb L=>(k.block b (bi L s) λc=>by have:=aj b c;omega).trans (m.block b L)⟩;refine⟨e,l,rfl,?_⟩;by_cases g:l=0
  ·obtain⟨_,_,t,P⟩:=i.2.2 g;obtain⟨C,A,B,ad,_⟩:=t;exact⟨C,A,B,ad.2,I P λb c=>by omega,i⟩
  ·have n:=(i.2.1 g).2;exact⟨_,_,_,(n.block _ (by omega)).trans H.2,I (bC n λ_=>False) λb c=>c.elim,i⟩
 ·rintro f aN ⟨X,Y,Z⟩;cases hn:ek name with
  | false=>
   have h:fx (N+1) x room name=5:=by simp[fx,hn]
   refine⟨λ_=>by rw[h];exact X hn,λa=>by rw[h]at a;cases a⟩
  | true=>
   by_cases d:0<=room/\room<=1000;rotate_left
   ·have h:fx (N+1) x room name=1:=by simp[fx,hn,d]
    refine⟨λ_=>by rw[h];exact Y hn d,λa=>by rw[h]at a;cases a⟩
   ·obtain⟨e,l,o,p,Q,d1,d2⟩:=Z hn d;obtain⟨aD,aK,n,i⟩:=Q;have h:fx (N+1) x room name=l:=by rw[i.1];simp[fx,hn,d]
    have M:=n.size;rw[PW,h];refine⟨λg=>⟨(d1 g).1,n.trans ((d1 g).2.mono M)⟩,λg=>?_⟩;obtain⟨j,C,A,B,rfl,r,J,rfl⟩:=d2 g;have aF:=r.size;obtain⟨K,ay,t,P⟩:=i.2.2 g;have ar:=t.nodup;have ab:=(t.later r);obtain⟨y,u,v,R,S,T,aC,U,V,W⟩:=ab;have an:=(aS.1 J).1;have F:(Obj.cells #[ae room,y,u,v] 193)=(Obj.cells #[ae room,C,A,B] 193):=aJ (R.2.symm.trans ((r.block _ an).trans J));simp only[Obj.cells.injEq,Array.mk.injEq,lC,gU,true_and]at F;obtain⟨rfl,rfl,rfl⟩:=F;have z:ap j (j.alloc (.cells #[ag name,ae room,y,u,v,ae e.1,ae e.2,af none 0 0] 195)):=bf;have az:(j.alloc (.cells #[ag name,ae room,y,u,v,ae e.1,ae e.2,af none 0 0] 195)).heap.size=j.heap.size+1:=by simp
    refine⟨j.heap.size,rfl,by omega,(n.trans (r.mono M)).trans (z.mono (by omega)),(bw (N+1) x [] []).2.1,(bw (N+1) x [] []).2.2,e,λb=>b=j.heap.size\/(w.heap.size<=b/\b<j.heap.size),?_⟩;have al:kN (N+1) [] [] room [] ([]:List (Tm (N+1))):=⟨⟨rfl,λaM e aA a=>by simp at a⟩,by simp,λaA a=>by simp at a,by simp,by simp;exact d.1,d.1,d.2,by simp⟩;have ao:=al.lay x K ar;have av:=(jg (N+1) x [] []).2;have aE:=jQ K.1;simp only[eW]at av;refine⟨⟨y,u,v,⟨⟨rfl,am rfl⟩,aL _ _⟩,eA S (bC z λ_=>False) (λ_ _ c=>c),T.kept (bC z λ_=>False) (λ_ _ c=>c) (λ_ _ c=>c),ak rfl,λb c=>am ?_,λb c=>am ?_,λb c=>am ?_⟩,ak ⟨rfl,rfl,rfl⟩,?_,rfl,by omega,λb c=>?_,λaB a=>by cases a⟩
    ·have a:=U b c;have G:=a.2;rcases a.1 with q|q<;>exact⟨by omega,by omega⟩
    ·have a:=V b c;have G:=a.2;rcases a.1 with q|q<;>exact⟨by omega,by omega⟩
    ·have a:=W b c;have G:=a.2;rcases a.1 with q|q<;>exact⟨by omega,by omega⟩
    ·rw[ay];exact ao
    ·rw[az];rcases c with c|c<;>exact⟨by omega,by omega⟩
def vg(w:ah)(c:Nat)(a b:Int):ah:=(w.setCell ⟨c,5,none⟩ (ae a)).setCell ⟨c,6,none⟩ (ae b)
def Qt(b d e:Nat)(t0 t1:Int)(t2:aq)(g:ay)(i h:Nat)(s0 s1:Int)(f:aq)(sa:ay)(sl sc:Nat)(W:ah):Prop:=
 W.heap[d]?=some (.cells #[ae t0,ae t1,ag t2,af g i h] 54)/\W.heap[e]?=some (.cells #[ae s0,ae s1,ag f,af sa sl sc] 54)/\(∃a,W.cell? ⟨b,5,none⟩=some (ae a))/\(∃a,W.cell? ⟨b,6,none⟩=some (ae a))/\∀c,W.frozen? ⟨b,c,none⟩=false
theorem BA(t0 t1:Int)(t2:aq)(m:ay)(o n:Nat)(c:Nat)(w:ah)(S:Int->Int->aq->ay->Nat->Nat->bF)(P1:ah->Wd->Int->bF)(R:Bool->bF)(aM:Hid (∀W,ap w W->au 93 #[aF c] W λe w'=>∃s0 s1 h sa sl sc,e=aw (aB s0 s1 h sa sl sc)/\Hid (ap W w'/\S s0 s1 h sa sl sc w')))(aG:Hid (∀W,ap w W->(∃a,ai W c 5 (ae a))/\(∃a,ai W c 6 (ae a))/\(∀j,W.frozen? ⟨c,j,none⟩=false)/\c<w.heap.size))(aK:Hid (∀s0 s1 h sa sl sc aU H g i,S s0 s1 h sa sl sc aU->ap aU H->ap w H->w.heap.size<=g->w.heap.size<=i->Qt c g i t0 t1 t2 m o n s0 s1 h sa sl sc (vg H c 1 0)->au 185 #[aF c,aB t0 t1 t2 m o n] (vg H c 1 0) λe w'=>∃(v:Wd)(r:Int),e=aw (ax #[.agg #[ae v.1,ae v.2],ae r])/\Hid (Qt c g i t0 t1 t2 m o n s0 s1 h sa sl sc w'/\P1 H v r w'/\ (r=0->∀W,ap w' W->R true (vg W c v.1 v.2))/\ (r≠0->∀W d,ap w' W->w'.heap.size<=d->d<W.heap.size->au 185 #[aF c,aB s0 s1 h sa sl sc] W λe L=>∃(v2:Wd)(aV:Int),e=aw (ax #[.agg #[ae v2.1,ae v2.2],ae aV])/\Hid ((∀bb,W.heap[d]?=some bb->L.heap[d]?=some bb)/\((∃a,ai L c 5 (ae a))/\(∃a,ai L c 6 (ae a))/\∀j,L.frozen? ⟨c,j,none⟩=false)/\∀aT,bH (λb=>b=d) L aT->R false (vg aT c v2.1 v2.2)))))):au 180 #[aF c,aB t0 t1 t2 m o n] w λe w'=>∃t,e=aw (.bool t)/\Hid (R t w'):=by
 have aO:Hid (∃Y l,(Y=w.alloc (.cells #[ae t0,ae t1,ag t2,af m o n] 54)/\l=w.heap.size)/\ap w Y/\Y.heap[l]?=some (.cells #[ae t0,ae t1,ag t2,af m o n] 54)/\w.heap.size<=l):=⟨_,_,⟨rfl,rfl⟩,aW _ _,aL _ _,aA _⟩;go_enter func180,ntmps180;go_wp2_with fail;obtain⟨Y,g,⟨a7,a6⟩,aY,J,a3⟩:=aO.out;rw[<-a7,<-a6];have aa:=av aY;have x:=av J;have aH:=av a3;clear a7 a6 aY J a3 aO;refine(aM _ aa).mono ?_;rintro e Z ⟨s0,s1,h,sa,sl,sc,rfl,M⟩;have O:=av (aa.trans (M.1.mono aa.size));have aP:Hid (∃k l,(k=Z.alloc (.cells #[ae s0,ae s1,ag h,af sa sl sc] 54)/\l=Z.heap.size)/\ap Z k/\k.heap[l]?=some (.cells #[ae s0,ae s1,ag h,af sa sl sc] 54)/\w.heap.size<=l/\k.heap[g]?=some (.cells #[ae t0,ae t1,ag t2,af m o n] 54)):=by
  have bj:=(aS.1 x).1;have aX:=(M.1.block g bj).trans x;exact⟨_,_,⟨rfl,rfl⟩,aW _ _,aL _ _,O.size,((aW _ _).block g (aS.1 aX).1).trans aX⟩
 have aN:=av M.2;clear M aM x;go_upto_region 2 with fail;obtain⟨k,i,⟨a8,s⟩,ao,a0,a4,J⟩:=aP.out;rw[<-a8,<-s];have ab:=av (O.trans (ao.mono O.size));have aD:=av ao;have al:=av a0;have x:=av J;have aI:=av a4;clear a8 s ao a0 a4 J aP;obtain⟨⟨bq,be⟩,⟨br,bf⟩,T,bv⟩:=aG.out k ab;have f5:=T 5;have f6:=T 6;have u:Hid (Qt c g i t0 t1 t2 m o n s0 s1 h sa sl sc (vg k c 1 0)):=by
  have a2:bH (λb=>b=c) k (vg k c 1 0):=bH.trans (bO k c 5 _) (bO _ c 6 _) λ_ _ e=>e;refine⟨(a2.block g (aS.1 x).1 (by have:=aH.out;omega)).trans x,(a2.block i (aS.1 al).1 (by have:=aI.out;omega)).trans al,⟨1,?_⟩,⟨0,?_⟩,λj=>?_⟩
  ·exact(dS 5 (by decide)).trans (iQ _ _ _ be)
  ·exact iQ _ _ _ ((dS 6 (by decide)).trans bf)
  ·unfold vg;rw[ic,ic];exact T j
 have ad:=av (aK s0 s1 h sa sl sc Z k g i aN aD ab aH aI u);clear aK T aG;go_upto_region 3 with fail;obtain⟨E,V⟩:∃E,E=vg k c 1 0:=⟨_,rfl⟩;rw[<-V]at ad u;unfold vg at V;rw[<-V];have bm:ai E g 0 (ae t0):=aj u.1 0;have bn:ai E g 1 (ae t1):=aj u.1 1;have bo:ai E g 2 (ag t2):=aj u.1 2;have bp:ai E g 3 (af m o n):=aj u.1 3;clear V be bf f5 f6 x al ab aD O aN u;go_wp2_with fail;refine ad.mono ?_;rintro e F ⟨v,r,rfl,q⟩;have aQ:Hid (∃f l,(f=F.alloc (.cells #[ae v.1,ae v.2] 184)/\l=F.heap.size)/\ap F f/\f.heap[l]?=some (.cells #[ae v.1,ae v.2] 184)/\F.heap.size<=l):=⟨_,_,⟨rfl,rfl⟩,aW _ _,aL _ _,aA _⟩;go_upto_region 4 with fail;obtain⟨f,d,⟨a9,z⟩,aZ,a1,a5⟩:=aQ.out;rw[<-a9,<-z];have C:=av aZ;have Q:=av a1;have aJ:=av a5;clear a9 z aZ a1 a5 aQ bm bn bo bp ad;have P:Hid (c<F.heap.size):=by
  obtain⟨a,an⟩:=q.out.1.2.2.1;exact lM F ⟨c,5,none⟩ an
 have bg:Hid ((∃a,ai f c 5 (ae a))/\(∃a,ai f c 6 (ae a))/\∀j,f.frozen? ⟨c,j,none⟩=false):=by
  obtain⟨_,_,⟨a,an⟩,⟨b,bi⟩,y⟩:=q.out.1;refine⟨⟨a,(C.cell (p:=⟨c,5,none⟩) P).trans an⟩,⟨b,(C.cell (p:=⟨c,6,none⟩) P).trans bi⟩,λj=>?_⟩;have y:=y j;unfold World.frozen? at y ⊢;rw[C.out.block c P.out];exact y
 have bs:ai f d 0 (ae v.1):=aj Q 0;have bt:ai f d 1 (ae v.2):=aj Q 1;by_cases I:r=0
 ·have G:=av (q.2.2.1 I f C);unfold vg at G;obtain⟨⟨a,X⟩,⟨b,az⟩,D⟩:=bg;have f5:=D 5;have f6:=D 6;clear D q;subst I;go_wp2_with fail
  go_ret
  exact⟨true,rfl,G⟩
 ·have bu:¬(0:Int)=r:=λe=>I e.symm;have bh:=av (q.2.2.2 I f d C aJ (aS.1 Q).1);have s:=(C.block i (aS.1 q.1.2.1).1).trans q.1.2.1;have bz:ai f i 0 (ae s0):=aj s 0;have bA:ai f i 1 (ae s1):=aj s 1;have bB:ai f i 2 (ag h):=aj s 2;have bC:ai f i 3 (af sa sl sc):=aj s 3;clear s q;go_wp2_with fail;refine bh.mono ?_;rintro e A ⟨v2,aV,rfl,N⟩;have z:=N.1 _ Q;have bc:ai A d 0 (ae v.1):=aj z 0;have bd:ai A d 1 (ae v.2):=aj z 1;have aC:∀j,A.frozen? ⟨d,j,none⟩=false:=λj=>by simp[World.frozen?,z]
  have bk:=aC 0;have bl:=aC 1;have aR:Hid (∃B,B=(A.setCell ⟨d,0,none⟩ (ae v2.1)).setCell ⟨d,1,none⟩ (ae v2.2)/\(ai B d 0 (ae v2.1)/\ai B d 1 (ae v2.2))/\bH (λb=>b=d) A B):=by
   refine⟨_,rfl,⟨?_,?_⟩,bH.trans (bO A d 0 _) (bO _ d 1 _) λ_ _ e=>e⟩
   ·exact(dS 0 (by decide)).trans (iQ _ _ _ bc)
   ·exact iQ _ _ _ ((dS 1 (by decide)).trans bd)
  clear aC z;go_upto_region 6 with fail;obtain⟨B,ba,⟨y0,y1⟩,K⟩:=aR.out;rw[<-ba];have G:=av (N.2.2 B K);unfold vg at G;obtain⟨⟨a,X⟩,⟨b,az⟩,D⟩:=N.out.2.1;have U:=lM A ⟨c,5,none⟩ X;have ar:c≠d:=by have:=P.out;have:=aJ.out;omega
  have bw:=(K.cell 5 U ar).trans X;have bx:=(K.cell 6 U ar).trans az;have am:∀j,B.frozen? ⟨c,j,none⟩=false:=λj=>by
   have y:=D j;unfold World.frozen? at y ⊢;rw[K.block c U ar];exact y
  have f5:=am 5;have f6:=am 6;clear ba aR K X az D am N bc bd bk bl U;go_wp2_with fail;exact aE (v:=.bool (r==0)) (by simp[results,results180,go_sem]) rfl (ak ⟨b8 (by simpa using I),G.out⟩)
def fU(n m:Nat):Option (Tm n)->Option (Tm m)->Prop
 | none,none=>True
 | some x,some y=>aK n x m y=true
 | _,_=>False
theorem oq{l:Nat}{o:Option (Tm n)}{p:Option (Tm m)}{f:Tm n->Option (Tm k)}{g:Tm m->Option (Tm l)}(a:fU n m o p)(b:∀x y,aK n x m y=true->fU k l (f x) (g y)):fU k l (o.bind f) (p.bind g):=by
 cases o with
 | none=>
  cases p with
  | none=>trivial
  | some _=>exact a.elim
 | some x=>
  cases p with
  | none=>exact a.elim
  | some y=>exact b x y a
theorem ji(c:n<=N)(b:m<=M){x:Tm n}{y:Tm m}(d:aM ⟨n,x⟩)(e:aM ⟨m,y⟩)(a:aK n x m y=true):aK N (bq N n x) M (bq M m y)=true:=
 bW _ _ _ _ _ _ (fS N n c x d) (bW _ _ _ _ _ _ a (dF _ _ _ _ (fS M m b y e)))
theorem lS:(n:Nat)->(x:Tm n)->(m:Nat)->(y:Tm m)->aK n x m y=true->cm ⟨n,x⟩=cm ⟨m,y⟩/\qs n x=qs m y
 | 0,_,_,_,h=>by simp[aK]at h
 | _+1,_,0,_,h=>by simp[aK]at h
 | n+1,x,m+1,y,h=>by
  simp only[aK,aT,cU]at h;exact⟨h.1.1.1,h.1.1.2⟩
theorem zn{a c:Tm N}{b d:Tm M}(h:aK N a M b=true)(i:aK N c M d=true):fU (N+1) (M+1) (uP N a c) (uP M b d):=by
 have e:=lS _ _ _ _ h;have f:=lS _ _ _ _ i;have g:AY N a c=AY M b d:=by
  unfold AY;rw[e.1,e.2,f.1,f.2]
 unfold uP;rw[<-g,<-e.2,<-f.2];cases AY N a c
 ·simp[fU]
 ·simp[fU,aK,cB,aO]
theorem vu{i:Type}{N M:Nat}(f:i->Option (Tm N))(g:i->Option (Tm M)):(p:List i)->(∀a∈p,fU N M (f a) (g a))->fU (N+1) (M+1) ((da f p).map (dT N)) ((da g p).map (dT M))/\((da f p=none/\da g p=none)\/∃l r,da f p=some l/\da g p=some r/\aO (λx y=>aK N x M y) l r=true)
 | [],_=>⟨by simp[da,fU,aK,dT,aO],am ⟨[],[],rfl,rfl,rfl⟩⟩
 | a::p,h=>by
  have b:=h a (by simp);have n:=(vu f g p λx o=>h x (by simp[o])).2;simp only[da];cases e1:f a with
  | none=>
   rw[e1]at b;cases c:g a with
   | none=>simp[fU]
   | some _=>rw[c]at b;exact b.elim
  | some m=>
   rw[e1]at b;cases c:g a with
   | none=>rw[c]at b;exact b.elim
   | some v=>
    rw[c]at b;have j:aK N m M v=true:=b;rcases n with⟨d,e⟩|⟨l,r,d,e,k⟩
    ·rw[d,e];simp[fU]
    ·rw[d,e];exact⟨by simp[fU,aK,dT,aO,j,k],am ⟨m::l,v::r,rfl,rfl,by simp[aO,j,k]⟩⟩
theorem sO(m:Nat)(b:List (Tm m))(f:Nat)(a:List (Tm f))(self:Int)(i:aO (λx y=>aK m x f y) b a=true)(p:∀y∈b,aM ⟨m,y⟩)(q:∀y∈a,aM ⟨f,y⟩):(n:Nat)->(x:Tm n)->aM ⟨n,x⟩->fU (m+n) (f+n) (vl m b self n x) (vl f a self n x)
 | 0,_,_=>trivial
 | n+1,x,hx=>by
  have z:=cX _ _ _ i;have w:aK (n+1) x (n+1) x=true:=fT _ _ hx;unfold vl;by_cases k:x.1.1=5
  ·rw[if_pos k,if_pos k];cases e:b[x.1.2.1.toNat]? with
   | none=>
    have g:a[x.1.2.1.toNat]?=none:=by
     rw[List.getElem?_eq_none_iff]at e ⊢;omega
    rw[g];trivial
   | some y=>
    obtain⟨u,_⟩:=bj.1 e;have g:a[x.1.2.1.toNat]?=some a[x.1.2.1.toNat]:=aV (by omega);rw[g];have s:aK m y f a[x.1.2.1.toNat]=true:=j0 _ _ _ i _ _ _ e g;simp only[dU];rw[<-(lS _ _ _ _ s).1];by_cases d:cm ⟨m,y⟩=6
    ·rw[if_pos d,if_pos d];trivial
    ·rw[if_neg d,if_neg d];exact ji (by omega) (by omega) (p y (aU e)) (q _ (aU g)) s
  ·rw[if_neg k,if_neg k];by_cases d:x.1.1=6
   ·rw[if_pos d,if_pos d];trivial
   ·rw[if_neg d,if_neg d];by_cases j:x.1.1=4
    ·rw[if_pos j,if_pos j];by_cases r:uX n x.2.2 qF 0=true
     ·rw[if_pos r,if_pos r];simp[fU,aK,cB,aO]
     ·rw[if_neg r,if_neg r];by_cases l:uX n x.2.2 A9 2=true
      ·rw[if_pos l,if_pos l];cases e1:x.2.2[1]? with
       | none=>trivial
       | some h=>
        cases g:x.2.2[2]? with
        | none=>trivial
        | some c=>
         simp only[dU];exact oq (sO m b f a self i p q n h (bu n x h hx (aU e1))) λA C u=>oq (sO m b f a self i p q n c (bu n x c hx (aU g))) λB D v=>zn u v
      ·rw[if_neg l,if_neg l];by_cases o:uX n x.2.2 DF 1=true
       ·rw[if_pos o,if_pos o];cases e1:x.2.2[1]? with
        | none=>trivial
        | some h=>
         have t:=bu n x h hx (aU e1);simp only[dU];cases aY n h
         ·simp[fU]
         ·exact ji (by omega) (by omega) t t (fT _ _ t)
       ·rw[if_neg o,if_neg o];exact(vu _ _ x.2.2 λy s=>sO m b f a self i p q n y (bu n x y hx s)).1
    ·rw[if_neg j,if_neg j];exact ji (by omega) (by omega) hx hx w
def MD:(D:Nat)->(n:Nat)->Tm n->Tm D
 | 0,_,_=>()
 | _+1,0,_=>((0,0,.empty),(none,0),[])
 | D+1,n+1,x=>(x.1,(none,0),x.2.2.map λy=>MD D n y)
theorem Kk:(D:Nat)->(n:Nat)->(x:Tm n)->(m:Nat)->(y:Tm m)->aK n x m y=true->MD D n x=MD D m y
 | 0,_,_,_,_,_=>rfl
 | D+1,0,_,_,_,h=>by simp[aK]at h
 | D+1,n+1,_,0,_,h=>by simp[aK]at h
 | D+1,n+1,x,m+1,y,h=>by
  obtain⟨c,d⟩:=bV h;have e:=jp _ (λa=>MD D n a) (λb=>MD D m b) _ _ (λa _ b f=>Kk D n a m b f) d;simp only[MD,c,e];rfl
theorem BW{n:Nat}:(l:List (Tm n))->(m:Int)->m<=l.foldl (λm y=>max m (gK n y)) m/\∀y∈l,gK n y<=l.foldl (λm y=>max m (gK n y)) m
 | [],m=>⟨km _,λy b=>by simp at b⟩
 | a::l,m=>by
  obtain⟨d,c⟩:=BW l (max m (gK n a));simp only[gh];refine⟨by omega,λy b=>?_⟩;rcases cr.1 b with rfl|b
  ·omega
  ·exact c y b
theorem oW{x:Tm (n+1)}(e:aM ⟨n+1,x⟩){y:Tm n}(c:y∈x.2.2):gK n y+1<=gK (n+1) x:=by
 have d:x.1.1=4:=by
  have b:=e _ (qi ..);simp only[cN,aT,kj,cU,p8,decide_eq_false_iff_not]at b;rcases b.2 with a|a
  ·exact a
  ·have:=List.length_pos_of_mem c;omega
 have:=(BW x.2.2 0).2 y c;simp only[gK,if_pos d];omega
theorem BD:(D:Nat)->(n:Nat)->(x:Tm n)->aM ⟨n,x⟩->gK n x<D->aK D (MD D n x) n x=true
 | _,0,_,h,_=>(dH h).elim
 | 0,n+1,x,_,h=>by
  have:=(ik (n+1) x).1;omega
 | D+1,n+1,x,hr,h=>dD rfl (jq _ _ _ λy a=>BD D n y (bu n x y hr a) (by
  have:=oW hr a
  omega))
theorem jW:(D:Nat)->(n:Nat)->(x:Tm n)->aM ⟨n,x⟩->gK n x<D->aK D (bq D n x) n x=true
 | _,0,_,h,_=>(dH h).elim
 | 0,n+1,x,_,h=>by
  have:=(ik (n+1) x).1;omega
 | D+1,n+1,x,hr,h=>dD rfl (jq _ _ _ λy a=>jW D n y (bu n x y hr a) (by
  have:=oW hr a
  omega))
theorem Ln(D n:Nat)(x:Tm n)(w:ah)(b o:Nat)(g:0<D)(k:eh w b o n x):eh w b o D (bq D n x):=by
 cases n with
 | zero=>exact k.elim
 | succ n=>
  obtain⟨D,rfl⟩:∃a,D=a+1:=⟨D-1,by omega⟩;obtain⟨c,d,e,f⟩:=k;exact⟨c,d,e,by simpa [bq]using f⟩
theorem tC:(D n:Nat)->(x:Tm n)->(B:Nat)->(w:ah)->aM ⟨n,x⟩->gK n x<D->In B w n x->In B w D (bq D n x)
 | _,0,_,_,_,_,_,k=>k.elim
 | 0,n+1,x,_,_,_,h,_=>by
  have:=(ik (n+1) x).1;omega
 | D+1,n+1,x,B,w,hr,h,k=>by
  obtain⟨l,a⟩:=k;refine⟨by simpa [bq]using l,?_⟩;rcases a with a|⟨b,o,e,j,a⟩
  ·exact ak (by simp[bq,a])
  ·refine am ⟨b,o,e,j,λi y g=>?_⟩;simp only[bq,di]at g;obtain⟨c,d,rfl⟩:=cJ.1 g;have f:=aU d;have p:=oW hr f;have m:=(ik n c).1;exact⟨Ln D n c w b _ (by omega) (a i c d).1,tC D n c B w (bu n x c hr f) (by omega) (a i c d).2⟩
theorem Ay(D n:Nat)(x:Tm (n+1)):dG (D+1) (bq (D+1) (n+1) x)=dG (n+1) x:=by
 simp[dG,bq]
theorem uY:(D n:Nat)->(x:Tm n)->(P:aX)->aM ⟨n,x⟩->gK n x<D->cG P n x->cG P D (bq D n x)
 | _,0,_,_,h,_,_=>(dH h).elim
 | 0,n+1,x,_,_,h,_=>by
  have:=(ik (n+1) x).1;omega
 | D+1,n+1,x,P,hr,h,k=>by
  rcases k with k|⟨b,o,e,g,k⟩
  ·exact ak (by simp[bq,k])
  ·refine am ⟨b,o,e,g,λi y d=>?_⟩;simp only[bq,di]at d;obtain⟨a,f,rfl⟩:=cJ.1 d;have c:=aU f;have j:=oW hr c;exact uY D n a P (bu n x a hr c) (by omega) (k i a f)
abbrev Tc:Type:=Tm 13
def cn(n:Nat)(x:Tm n):Tc:=MD 13 n x
theorem gC{x:Tm n}{y:Tm m}(a:aK n x m y=true):cn n x=cn m y:=Kk 13 n x m y a
theorem eH{x:Tm n}(a:bL n x=0):aK 13 (cn n x) n x=true:=by
 obtain⟨b,c,_⟩:=bU.1 a;exact BD 13 n x (aZ.2 b) (by omega)
theorem MY{x:Tm n}(a:bL n x=0):cn 13 (cn n x)=cn n x:=gC (eH a)
theorem oV{x:Tm n}(a:bL n x=0):bL 13 (cn n x)=0:=by rw[bP (eH a),a]
theorem Gd{x:Tm n}(a:bL n x=0):sz 13 (cn n x)=sz n x:=kY _ _ _ _ (eH a)
theorem mY{x:Tm n}(a:bL n x=0):aY 13 (cn n x)=aY n x:=cH _ _ _ _ (eH a)
theorem QN:(p:List (Tm n))->(q:List (Tm m))->aO (λx y=>aK n x m y) p q=true->p.map (cn n)=q.map (cn m):=λp q a=>jp _ _ _ p q (λ_ _ _ b=>gC b) a
def nV:List An:=oP 1 (List.replicate 4 fG)
def P6(a:An):Tc:=cn a.1 a.2
def mm{n:Nat}(c:Cl (n+1))(s m:Tc):Option (List Tc):=(jc (n+1) c.1.1 13 s nV).bind λb=>(jc (n+1) c.1.2.1 13 m b).map λa=>a.map P6
def mX{n:Nat}(s m:Tc):List (Cl (n+1))->Option (Cl (n+1)×List Tc)
 | []=>none
 | c::l=>match mm c s m with
  | some b=>some (c,b)
  | none=>mX s m l
def td{n:Nat}(l:List (Cl (n+1)))(s:Tc):List Tc->Nat->Option (Nat×Cl (n+1)×List Tc)
 | [],_=>none
 | m::ms,i=>match mX s m l with
  | some x=>some (i,x)
  | none=>td l s ms (i+1)
theorem IT{x y:An}(a:eJ x y=true)(d:DT y):DT x:=by
 obtain⟨b,c⟩:=d;refine⟨(bP a).trans b,?_⟩;rw[wj a,cH _ _ _ _ a];exact c
theorem tM{d g:Type}(f:d->g->Bool):(p:List d)->(q:List g)->aO f p q=true->∀x∈p,∃y∈q,f x y=true
 | [],_,_,x,c=>by simp at c
 | _::_,[],h,_,_=>by simp[aO]at h
 | a::p,b::q,h,x,c=>by
  simp only[aO,aT]at h;rcases cr.1 c with rfl|c
  ·exact⟨b,by simp,h.1⟩
  ·obtain⟨y,i,e⟩:=tM f p q h.2 x c;exact⟨y,cd _ i,e⟩
theorem IU(a:aO eJ p q=true)(b:∀y∈q,DT y):∀x∈p,DT x:=λx c=>by
 obtain⟨y,d,e⟩:=tM _ _ _ a x c;exact IT e (b y d)
theorem sZ{n:Nat}:(l:List (Tm n))->(b:List An)->(∀y∈b,aM y/\y.1<=n)->aO (λx y=>aK n x n y) l (b.map λa=>bq n a.1 a.2)=true->aO eJ (oP n l) b=true
 | [],[],_,_=>rfl
 | [],_::_,_,h=>by simp[aO]at h
 | _::_,[],_,h=>by simp[aO]at h
 | x::l,a::b,hb,h=>by
  simp only[bB,aO,aT]at h;simp only[oP,bB,aO,aT];obtain⟨c,d⟩:=hb a (by simp);exact⟨bW _ _ _ _ _ _ h.1 (fS n a.1 d a.2 c),sZ l b (λy e=>hb y (cd _ e)) h.2⟩
theorem Ks(a:aO eJ p q=true):p.map P6=q.map P6:=jp _ _ _ p q (λ_ _ _ b=>gC b) a
theorem vv:aO eJ nV nV=true:=by
 refine jr _ _ λa b=>?_;exact fT _ _ (sC (DW a b))
theorem Ou{x:Tm n}(a:bL n x=0)(b:aY n x=true):DT ⟨n,x⟩:=⟨a,am b⟩
theorem cG.both{P Q:aX}:{n:Nat}->{x:Tm n}->cG P n x->cG Q n x->cG (λb=>P b/\Q b) n x
 | 0,_,p,_=>p
 | _+1,_,p,k=>by
  rcases p with p|⟨b,o,e,g,p⟩
  ·exact ak p
  ·rcases k with k|⟨j,l,a,h,k⟩
   ·exact ak k
   ·rw[e]at a;injection a with a;injection a with d f;subst d f;exact am ⟨b,o,e,⟨g,h⟩,λi y c=>(p i y c).both (k i y c)⟩
structure rM (D:Nat) (l:List (Tm D)) (B:List Tc) (b0:Nat) (w':ah) (bg bc:Nat):Prop where
 bnd:gH D l=true
 tells:l.map (cn D)=B
 cap:4<=bc/\bc<=maxLen
 new:b0<=bg/\bg<w'.heap.size
 at':∀(i:Nat)(y:Tm D),l[i]?=some y->eh w' bg (i*4) D y/\In w'.heap.size w' D y/\cG (λq=>b0<=q/\q≠bg) D y
 free:∀j,w'.frozen? ⟨bg,j,none⟩=false
def Oo{n:Nat}(c:Cl (n+1))(s m:Tc)(w:ah)(e:Ending)(w':ah):Prop:=
 ∃b len f g,e=aw (ax #[af b len f,.bool g])/\Hid (ap w w'/\g=(mm c s m).isSome/\∀a,mm c s m=some a->len=4/\∃h l d,b=some ⟨d,0,none⟩/\rM h l a w.heap.size w' d f)
theorem KN(c:Cl (n+1))(s:Tm (m+1))(t:Tm (k+1))(R:bL (n+1) c.1.1=0)(S:bL (n+1) c.1.2.1=0)(A:bL (m+1) s=0)(T:aY (m+1) s=true)(B:bL (k+1) t=0)(U:aY (k+1) t=true){e:Ending}(Q:JW (jc (n+1) c.1.1 (m+1) s nV) (jc (n+1) c.1.2.1 (k+1) t) w e w'):Oo c (cn (m+1) s) (cn (k+1) t) w e w':=by
 obtain⟨K,len,P,aq,rfl,J⟩:=Q;obtain⟨V,Z,ae⟩:=J;refine⟨K,len,P,aq,rfl,V,?_⟩;have f:=nb (n+1) c.1.1 (m+1) s (n+1) c.1.1 13 (cn (m+1) s) nV nV (fT _ _ (aZ.2 (bU.1 R).1)) (dF _ _ _ _ (eH A)) vv;cases e1:jc (n+1) c.1.1 (m+1) s nV with
 | none=>
  rw[e1]at f;cases e2:jc (n+1) c.1.1 13 (cn (m+1) s) nV with
  | some _=>
   rw[e2]at f;exact f.elim
  | none=>
   have j:mm c (cn (m+1) s) (cn (k+1) t)=none:=by simp[mm,e2]
   rw[j];exact⟨Z e1,λz i=>by cases i⟩
 | some b=>
  rw[e1]at f;cases e2:jc (n+1) c.1.1 13 (cn (m+1) s) nV with
  | none=>
   rw[e2]at f;exact f.elim
  | some q=>
   rw[e2]at f;have r:=lQ DT pi (n+1) c.1.1 (m+1) s (Ou A T) nV b ⟨by simp[nV,oP],DW⟩ e1;obtain⟨o,X,aa,af⟩:=ae b e1;have p:aO eJ (oP (nQ b) o) b=true:=sZ o b (λa d=>⟨sC (r.2 a d),A4 b a d⟩) X;have L:aO eJ (oP (nQ b) o) q=true:=pr eJ eJ eJ _ _ _ (λH _ a I ak G=>bW H.1 H.2 a.1 a.2 I.1 I.2 ak G) p f;have g:=nb (n+1) c.1.2.1 (k+1) t (n+1) c.1.2.1 13 (cn (k+1) t) _ _ (fT _ _ (aZ.2 (bU.1 S).1)) (dF _ _ _ _ (eH B)) L;cases e3:jc (n+1) c.1.2.1 (k+1) t (oP (nQ b) o)with
   | none=>
    rw[e3]at g;cases e4:jc (n+1) c.1.2.1 13 (cn (k+1) t) q with
    | some _=>
     rw[e4]at g;exact g.elim
    | none=>
     have j:mm c (cn (m+1) s) (cn (k+1) t)=none:=by simp[mm,e2,e4]
     rw[j];exact⟨aa e3,λz i=>by cases i⟩
   | some h=>
    rw[e3]at g;cases e4:jc (n+1) c.1.2.1 13 (cn (k+1) t) q with
    | none=>
     rw[e4]at g;exact g.elim
    | some N=>
     rw[e4]at g;have j:mm c (cn (m+1) s) (cn (k+1) t)=some (N.map P6):=by simp[mm,e2,e4]
     rw[j];obtain⟨ai,aj,E,aw,l,ar,F⟩:=af h e3;refine⟨ai,λz i=>⟨aj,nQ h,l,?_⟩⟩;cases i;have ab:=IU p r.2;have Y:(oP (nQ b) o).length=4:=by rw[cX _ _ _ p];exact r.1
     have C:=lQ DT pi (n+1) c.1.2.1 (k+1) t (Ou B U) _ h ⟨Y,ab⟩ e3;have D:∀a∈h,aM a:=λa d=>sC (C.2 a d);obtain⟨_,v,ag,_⟩:=Gk F D E;have W:=zq C.2 v E ag;obtain⟨_,_,au,al,am,x⟩:=F;rcases x with x|⟨O,bo,rfl,⟨av,rfl,ao,ap⟩,an,y⟩
     ·rw[x]at v;simp at v
     ·refine⟨O,rfl,W,?_,⟨by omega,al⟩,⟨by omega,an⟩,λu a d=>⟨?_,(y u a d).2.1,(cG.both (y u a d).2.2 (ap a (aU d))).mono λG ad=>⟨by omega,ad.2⟩⟩,ao⟩;rotate_left
      ·have:=(y u a d).1;rw[cC]at this;exact this
      have M:aO eJ (oP (nQ h) l) h=true:=sZ l h (λa d=>⟨D a d,A4 h a d⟩) am;rw[<-Ks g,<-Ks M];simp[oP,P6]
theorem I6(c:Cl (n+1))(s:Tm (m+1))(t:Tm (k+1))(B:Nat)(w:ah)(i:iR (n+1) B w c)(j:In B w (m+1) s)(l:In B w (k+1) t)(h:B<=w.heap.size)(a:bL (n+1) c.1.1=0)(b:bL (n+1) c.1.2.1=0)(d:bL (m+1) s=0)(e:aY (m+1) s=true)(f:bL (k+1) t=0)(g:aY (k+1) t=true):au 177 #[.agg (fH (n+1) c).toArray,dG (m+1) s,dG (k+1) t] w (Oo c (cn (m+1) s) (cn (k+1) t) w):=
 (I5 n m k c s t B w i j l h a b d (by rw[<-fR];exact e) f (by rw[<-fR];exact g)).mono λ_ _ o=>KN c s t a b d e f g o
theorem mB:(N n:Nat)->n<=N->(x:Tm n)->aY N (bq N n x)=aY n x
 | 0,0,_,_=>rfl
 | _+1,0,_,_=>by simp[bq,aY]
 | 0,n+1,h,_=>by omega
 | N+1,n+1,h,x=>by
  have:(x.2.2.map λy=>bq N n y).all (λy=>aY N y)=x.2.2.all λy=>aY n y:=by
   rw[List.all_map];congr 1;funext y;exact mB N n (by omega) y
  simp only[aY,bq];rw[this]
theorem zx(m:Nat)(b:List (Tm m))(self:Int)(k:∀y∈b,cm ⟨m,y⟩=6\/aY m y=true):(n:Nat)->(x:Tm n)->aM ⟨n,x⟩->(j:Tm (m+n))->vl m b self n x=some j->aY (m+n) j=true
 | 0,_,_,_,d=>by simp[vl]at d
 | n+1,x,hr,j,d=>by
  have p:=eY (bR n x) (hr (bR n x) (by simp[aI,bR]));by_cases g:x.1.1=6
  ·rw[Mu m b self n x g]at d;cases d
  ·by_cases f:x.1.1=5
   ·simp only[vl,f,cD]at d;obtain⟨y,h,d⟩:=cv.1 d;split at d
    ·cases d
    ·rename_i t;obtain rfl:=aJ d;exact(mB (m+n+1) m (by omega) y).trans ((k y (aU h)).resolve_left t)
   ·by_cases e:x.1.1=4
    ·rw[Mv m b self n x e]at d;unfold xQ at d;split at d
     ·obtain rfl:=aJ d;simp[cB,aY]
     ·split at d
      ·obtain⟨a,q,d⟩:=cv.1 d;obtain⟨c,D,d⟩:=cv.1 d;obtain⟨A,C,d⟩:=cv.1 d;obtain⟨B,E,d⟩:=cv.1 d;unfold uP at d;split at d
       ·obtain rfl:=aJ d;simp[cB,aY]
       ·cases d
      ·split at d
       ·obtain⟨a,q,d⟩:=cv.1 d;split at d
        ·rename_i r;obtain rfl:=aJ d;exact(mB (m+n+1) n (by omega) a).trans r
        ·cases d
       ·obtain⟨l,u,rfl⟩:=cJ.1 d;obtain⟨w,z⟩:=rU _ _ _ u;show aY (m+n+1) (dT (m+n) l)=true;simp only[aY,dT];simp only[aT,cZ];refine⟨by decide,λy h=>?_⟩;obtain⟨i,o⟩:=dj h;have s:i<x.2.2.length:=by rw[<-w];exact(bj.1 o).1
        exact zx m b self k n x.2.2[i] (bu n x _ hr (gi _)) y (z i _ y (aV s) o)
    ·rw[GU m b self n x e f g]at d;obtain rfl:=aJ d;have v:x.2.2=[]:=b9 (p.2.2.2.2 e);refine(mB (m+n+1) (n+1) (by omega) x).trans ?_;simp[aY,f,g,v]
def gG(n:Nat)(name:aq):List (Bh n)->Option (Bh n)
 | []=>none
 | b::l=>if b.1=name then some b else gG n name l
def MX(n:Nat):Option (Bh n)->az
 | none=>af none 0 0
 | some b=>af b.2.1.1 b.2.2.length b.2.1.2
theorem pF(n:Nat)(name:aq){l:List (Bh n)}{j:Nat}{b:Bh n}(c:l[j]?=some b):gG n name (l.drop j)=if b.1=name then some b else gG n name (l.drop (j+1)):=by
 obtain⟨d,a⟩:=bj.1 c;rw[fq d,a];rfl
theorem vF(n:Nat)(name:aq)(l:List (Bh n))(r:ay)(D len B:Nat)(w:ah)(G:l.length=len)(H:len<=9223372036854775807)(z:B<=w.heap.size)(x:Hid (iX n B w r l)):au 154 #[af r len D,ag name] w λe w'=>e=aw (MX n (gG n name l))/\ap w w':=by
 go_enter func154,ntmps154;go_wp2_with fail;go_loopw [9] (λq wr=>∃a:Nat,a<=len/\q=ae a/\Hid (ap w wr/\gG n name l=gG n name (l.drop a))) (λq _=>len-(intOf q).toNat)
 case atStart=>exact⟨0,by omega,rfl,aH _ _,rfl⟩
 case round=>
 obtain⟨a,F,rfl,c⟩:=hrel;by_cases I:a<len
 ·obtain⟨b,d⟩:∃b,l[a]?=some b:=⟨l[a]'(by omega),aV _⟩;obtain⟨k,lo,rfl,C,v⟩:∃g o,r=some ⟨g,o,none⟩/\g<B/\Hid (∀(t:Nat)(f:az),(rK n b)[t]?=some f->ai w g (o+a*2+t) f):=by
   rcases x with e|⟨g,o,e,A,y⟩
   ·rw[e]at d;simp at d
   ·exact⟨g,o,e,A,(y a _ d).1⟩
  have i:∀(t:Nat)(f:az),(rK n b)[t]?=some f->ai wr k (lo+a*2+t) f:=λt f u=>(c.1.cell (p:=⟨k,lo+a*2+t,none⟩) (bi C z)).trans (v t f u);have E:ai wr k (lo+a*2) (ag b.1):=i 0 _ rfl;have L:ai wr k (lo+a*2+1) (af b.2.1.1 b.2.2.length b.2.1.2):=i 1 _ rfl;have J:(0:Int)<=(a:Int):=by omega
  have K:(a:Int)<(len:Int):=by omega
  have s:Hid (∀o:Obj,ap w (wr.alloc o)):=λo=>c.1.alloc c.1.size o;by_cases j:b.1=name
  ·have h:Hid (gG n name l=some b):=by
     show _=_;rw[c.out.2,pF n name d,if_pos j]
   have m:Hid (MX n (gG n name l)=af b.2.1.1 b.2.2.length b.2.1.2):=by
    show _=_;rw[h.out];rfl
   rw[j]at E;clear i c h d;go_wp2_with fail
   go_ret
   rw[m.out];exact⟨rfl,s _⟩
  ·have h:Hid (gG n name l=gG n name (l.drop (a+1))):=by
     show _=_;rw[c.out.2,pF n name d,if_neg j]
   have u:(b.1.toList==name.toList)=false:=by
    rw[dM];intro e;rw[cE,cE]at e;exact j (ByteArray.ext (Array.ext' e))
   clear i c d;go_wp2_with fail;go_roundw
   case rel=>exact⟨a+1,by omega,by go_num,s _,h⟩
   case measure=>simp[intOf];omega
 ·obtain rfl:a=len:=by omega
  have m:Hid (MX n (gG n name l)=af none 0 0):=by
   show _=_;rw[c.out.2,qd (by omega)];rfl
  have HB:=av c.1;clear c;go_wp2_with fail
  go_ret
  rw[m.out];exact⟨rfl,HB⟩
end Go.Proofs.YthjclakhibnamaaGreatDoor
