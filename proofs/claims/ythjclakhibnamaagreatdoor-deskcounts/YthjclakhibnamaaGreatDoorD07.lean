/- Proved here: plain facts and contracts. No condition but what each names. -/
import Derived.Test.YthjclakhibnamaaGreatDoorD06
namespace Go.Proofs.YthjclakhibnamaaGreatDoor
open Go.RowKit Go.Proofs.Tryz
set_option maxHeartbeats 4000000
set_option maxRecDepth 100000
def Oz(n:Nat)(w:ah)(b o:Nat)(x:Ac (n+1)):Prop:=
 w.cell? ⟨b,o,none⟩=some (ae x.1)/\
 (w.cell? ⟨b,o+1,none⟩=some (ae x.2.1.1.1.1)/\w.cell? ⟨b,o+2,none⟩=some (ae x.2.1.1.1.2.1)/\w.cell? ⟨b,o+3,none⟩=some (ag x.2.1.1.1.2.2)/\w.cell? ⟨b,o+4,none⟩=some (af x.2.1.1.2.1.1 x.2.1.1.2.2.length x.2.1.1.2.1.2))/\
 (w.cell? ⟨b,o+5,none⟩=some (ae x.2.1.2.1.1)/\w.cell? ⟨b,o+6,none⟩=some (ae x.2.1.2.1.2.1)/\w.cell? ⟨b,o+7,none⟩=some (ag x.2.1.2.1.2.2)/\w.cell? ⟨b,o+8,none⟩=some (af x.2.1.2.2.1.1 x.2.1.2.2.2.length x.2.1.2.2.1.2))/\
 w.cell? ⟨b,o+9,none⟩=some (ag x.2.2.1)/\w.cell? ⟨b,o+10,none⟩=some (ae x.2.2.2)
def OD(n:Nat)(w:ah)(b o:Nat)(x:Cl (n+1)):Prop:=
 (w.cell? ⟨b,o,none⟩=some (ae x.1.1.1.1)/\w.cell? ⟨b,o+1,none⟩=some (ae x.1.1.1.2.1)/\w.cell? ⟨b,o+2,none⟩=some (ag x.1.1.1.2.2)/\w.cell? ⟨b,o+3,none⟩=some (af x.1.1.2.1.1 x.1.1.2.2.length x.1.1.2.1.2))/\
 (w.cell? ⟨b,o+4,none⟩=some (ae x.1.2.1.1.1)/\w.cell? ⟨b,o+5,none⟩=some (ae x.1.2.1.1.2.1)/\w.cell? ⟨b,o+6,none⟩=some (ag x.1.2.1.1.2.2)/\w.cell? ⟨b,o+7,none⟩=some (af x.1.2.1.2.1.1 x.1.2.1.2.2.length x.1.2.1.2.1.2))/\
 w.cell? ⟨b,o+8,none⟩=some (af x.2.1.1 x.2.2.length x.2.1.2)/\
 (w.cell? ⟨b,o+9,none⟩=some (ae x.1.2.2.1.1)/\w.cell? ⟨b,o+10,none⟩=some (ae x.1.2.2.1.2.1)/\w.cell? ⟨b,o+11,none⟩=some (ag x.1.2.2.1.2.2)/\w.cell? ⟨b,o+12,none⟩=some (af x.1.2.2.2.1.1 x.1.2.2.2.2.length x.1.2.2.2.1.2))
variable{K:Act->bE}{cs:Array ax}{Q:Exit->Act->bE}{room:Int}{p q:List An}{e ps vs ws:List Wd}{d B L M N b base c g k m n r xc:Nat}{f h i o:Obj}{j:Type}{t:TypeId}{Mh:aU}{l W w w' w0 w1 w4 wr:ah}{a ma xa:aw}{u v v0 v1 v2 v3:ax}{nm:bj}{xs:dG}
theorem Lay.ac{e:Ac (n+1)->Prop}{p:List (Ac (n+1))}(d:Lay B w 11 (gX (n+1)) e a p)(k:Nat)(x:Ac (n+1))(f:p[k]?=some x):∃b o,a=some ⟨b,o,none⟩/\b<B/\Oz n w b (o+k*11) x/\e x:=by
 rcases d with d|⟨b,o,g,i,d⟩
 ·subst d;simp at f
 ·obtain⟨c,h⟩:=d k x f;exact⟨b,o,g,i,⟨c 0 _ rfl,⟨c 1 _ rfl,c 2 _ rfl,c 3 _ rfl,c 4 _ rfl⟩,⟨c 5 _ rfl,c 6 _ rfl,c 7 _ rfl,c 8 _ rfl⟩,c 9 _ rfl,c 10 _ rfl⟩,h⟩
theorem Lay.cl{e:Cl (n+1)->Prop}{p:List (Cl (n+1))}(d:Lay B w 13 (fF (n+1)) e a p)(k:Nat)(x:Cl (n+1))(f:p[k]?=some x):∃b o,a=some ⟨b,o,none⟩/\b<B/\OD n w b (o+k*13) x/\e x:=by
 rcases d with d|⟨b,o,g,i,d⟩
 ·subst d;simp at f
 ·obtain⟨c,h⟩:=d k x f;exact⟨b,o,g,i,⟨⟨c 0 _ rfl,c 1 _ rfl,c 2 _ rfl,c 3 _ rfl⟩,⟨c 4 _ rfl,c 5 _ rfl,c 6 _ rfl,c 7 _ rfl⟩,c 8 _ rfl,c 9 _ rfl,c 10 _ rfl,c 11 _ rfl,c 12 _ rfl⟩,h⟩
theorem Lay.bh{d:Bh (n+1)->Prop}{p:List (Bh (n+1))}(c:Lay B w 2 (rJ (n+1)) d a p)(k:Nat)(x:Bh (n+1))(f:p[k]?=some x):∃b o,a=some ⟨b,o,none⟩/\b<B/\(ai w b (o+k*2) (ag x.1)/\ai w b (o+k*2+1) (af x.2.1.1 x.2.2.length x.2.1.2))/\d x:=by
 rcases c with c|⟨b,o,g,i,c⟩
 ·subst c;simp at f
 ·obtain⟨e,h⟩:=c k x f;exact⟨b,o,g,i,⟨e 0 _ rfl,e 1 _ rfl⟩,h⟩
theorem lh{b:Nat->ah->j->Prop}{c:(Nat->Prop)->j->Prop}(e:kG b c){f:j->List ax}(g:Below B w w'){l:List j}(d:Lay B w k f (b B w) a l):Lay B w' k f (b B w') a l:=(cZ e k f a).below g d
theorem Bq(n:Nat)(p:List (Ac (n+1)))(len:Nat)(r:Hid (p.length=len))(a:aw)(pc B:Nat)(w:ah)(u:Hid (Lay B w 11 (gX (n+1)) (jJ (n+1) B w) a p))(C:len<=9223372036854775807)(s:B<=w.heap.size):au 147 #[af a len pc] w λe w'=>e=.returned (.bool (decide ((len:Int)<=8) && p.all (oN (n+1))))/\ap w w':=by
 by_cases x:(8:Int)<len
 ·have f:decide ((len:Int)<=8)=false:=by simp;omega
  rw[f];go_enter func147,ntmps147;go_wp2_with fail
  go_ret
  exact⟨rfl,aE _ _⟩
 have f:decide ((len:Int)<=8)=true:=by simp;omega
 rw[f,eS];clear f;go_enter func147,ntmps147;go_wp2_with fail;go_loopw [10] (λj wr=>∃k:Nat,k<=len/\j=ae k/\ap w wr/\Hid ((p.drop k).all (oN (n+1))=p.all (oN (n+1)))) (λj _=>len-(intOf j).toNat)
 case atStart=>exact⟨0,by omega,rfl,aE _ _,rfl⟩
 case round=>
  obtain⟨k,y,rfl,d,h⟩:=hrel;by_cases t:k<len
  ·obtain⟨b,i⟩:∃b,p[k]?=some b:=⟨p[k]'(by rw[r.out];exact t),aS _⟩;have l:=av (rU (oN (n+1)) p k b i);obtain⟨E,po,rfl,D,⟨F,⟨G,I,J,K⟩,⟨L,M,N,O⟩,P,H⟩,q⟩:=(lh (fU (n+1)) (d.mono s) u).ac k b i;have g:=λc=>av (Io n b c q.2.2.2.1);replace g:Hid (∀c,au 173 #[.agg #[ae b.1,ae b.2.1.1.1.1,ae b.2.1.1.1.2.1,ag b.2.1.1.1.2.2,af b.2.1.1.2.1.1 b.2.1.1.2.2.length b.2.1.1.2.1.2,ae b.2.1.2.1.1,ae b.2.1.2.1.2.1,ag b.2.1.2.1.2.2,af b.2.1.2.2.1.1 b.2.1.2.2.2.length b.2.1.2.2.1.2,ag b.2.2.1,ae b.2.2.2]] c λe w'=>e=.returned (.bool (oN (n+1) b))/\ap c w'):=λc=>(g c);clear q i;generalize oN (n+1) b=v at*;have z:(0:Int)<=(k:Int):=by omega
   have A:(k:Int)<(len:Int):=by omega
   go_wp2_with fail;refine(g _).mono ?_;rintro e c ⟨rfl,m⟩;have o:ap w c:=(d.trans ((aT _ _).mono d.size)).trans (m.mono (by have:=d.size;simp;omega));clear m;cases v with
   | true=>
    go_wp2_with fail;go_roundw
    case rel=>exact⟨k+1,by omega,by go_num,o,by rw[<-h.out,l.out];rfl⟩
    case measure=>simp[intOf];omega
   | false=>
    go_wp2_with fail
    go_ret
    exact⟨bY (by rw[<-h.out,l.out];rfl),o⟩
  ·go_wp2_with fail
   go_ret
   refine⟨bY ?_,d⟩;rw[<-h.out,kj (by rw[r.out];omega)];rfl
theorem vw(n:Nat)(p:List (Cl (n+1)))(len:Nat)(s:Hid (p.length=len))(a:aw)(pc B:Nat)(w:ah)(y:Hid (Lay B w 13 (fF (n+1)) (iP (n+1) B w) a p))(G:len<=9223372036854775807)(m:B<=w.heap.size):au 120 #[af a len pc] w λe w'=>e=.returned (.bool (decide (1<=(len:Int)) && decide ((len:Int)<=6) && p.all (vC (n+1))))/\ap w w':=by
 by_cases A:(len:Int)<1
 ·have v:decide (1<=(len:Int))=false:=by simp;omega
  rw[v];go_enter func120,ntmps120;go_wp2_with fail
  go_ret
  exact⟨rfl,aE _ _⟩
 by_cases C:(6:Int)<len
 ·have f:decide ((len:Int)<=6)=false:=by simp;omega
  rw[f];go_enter func120,ntmps120;go_wp2_with fail
  go_ret
  exact⟨bY (by simp),aE _ _⟩
 have f:(decide (1<=(len:Int)) && decide ((len:Int)<=6))=true:=by simp;omega
 rw[f,eS];clear f;go_enter func120,ntmps120;go_wp2_with fail;go_loopw [15] (λj wr=>∃k:Nat,k<=len/\j=ae k/\ap w wr/\Hid ((p.drop k).all (vC (n+1))=p.all (vC (n+1)))) (λj _=>len-(intOf j).toNat)
 case atStart=>exact⟨0,by omega,rfl,aE _ _,rfl⟩
 case round=>
  obtain⟨k,D,rfl,d,g⟩:=hrel;by_cases x:k<len
  ·obtain⟨b,i⟩:∃b,p[k]?=some b:=⟨p[k]'(by rw[s.out];exact x),aS _⟩;have l:=av (rU (vC (n+1)) p k b i);obtain⟨I,po,rfl,H,⟨⟨J,K,O,P⟩,⟨Q,R,S,T⟩,U,V,L,M,N⟩,h⟩:=(lh (eL (n+1)) (d.mono m) y).cl k b i;have o:B<=wr.heap.size:=aD m d.size
   have u:Hid (∀c,ap wr c->au 147 #[af b.2.1.1 b.2.2.length b.2.1.2] c λe w'=>e=.returned (.bool (vC (n+1) b))/\ap c w'):=
    λc t=>Bq n b.2.2 b.2.2.length rfl b.2.1.1 b.2.1.2 B c (lh (fU (n+1)) (t.mono o) h.2.2) (by have:=h.2.1;unfold maxLen at this;omega) (aD o t.size)
   clear h i;generalize vC (n+1) b=z at*;have E:(0:Int)<=(k:Int):=by omega
   have F:(k:Int)<(len:Int):=by omega
   go_wp2_with fail;refine(u _ (aT _ _)).mono ?_;rintro e c ⟨rfl,q⟩;have r:ap w c:=(d.trans ((aT _ _).mono d.size)).trans (q.mono (by have:=d.size;simp;omega));clear q;cases z with
   | true=>
    go_wp2_with fail;go_roundw
    case rel=>exact⟨k+1,by omega,by go_num,r,by rw[<-g.out,l.out];rfl⟩
    case measure=>simp[intOf];omega
   | false=>
    go_wp2_with fail
    go_ret
    exact⟨bY (by rw[<-g.out,l.out];rfl),r⟩
  ·go_wp2_with fail
   go_ret
   refine⟨bY ?_,d⟩;rw[<-g.out,kj (by rw[s.out];omega)];rfl
theorem OX(n:Nat)(x:Bh n):xX n x=(eh x.1 && (decide (1<=(x.2.2.length:Int)) && decide ((x.2.2.length:Int)<=6) && x.2.2.all (vC n))):=by
 simp only[xX,Bool.and_assoc]
theorem qy(n:Nat)(p:List (Bh (n+1)))(len:Nat)(l:Hid (p.length=len))(a:aw)(pc B:Nat)(w:ah)(D:Hid (iV (n+1) B w a p))(M:len<=9223372036854775807)(s:B<=w.heap.size):au 81 #[af a len pc] w λe w'=>e=.returned (.bool (lj (n+1) p))/\ap w w':=by
 have r:Hid (lj (n+1) p=(decide (1<=(len:Int)) && decide ((len:Int)<=7) && p.all (xX (n+1)))):=by
  show lj (n+1) p=_;rw[<-l.out];rfl
 rw[r.out];by_cases H:(len:Int)<1
 ·have A:decide (1<=(len:Int))=false:=by simp;omega
  rw[A];go_enter func81,ntmps81;go_wp2_with fail
  go_ret
  exact⟨rfl,aE _ _⟩
 by_cases I:(7:Int)<len
 ·have f:decide ((len:Int)<=7)=false:=by simp;omega
  rw[f];go_enter func81,ntmps81;go_wp2_with fail
  go_ret
  exact⟨bY (by simp),aE _ _⟩
 have f:(decide (1<=(len:Int)) && decide ((len:Int)<=7))=true:=by simp;omega
 rw[f,eS];clear f r;go_enter func81,ntmps81;go_wp2_with fail;go_loopw [15] (λo wr=>∃k:Nat,k<=len/\o=ae k/\ap w wr/\Hid ((p.drop k).all (xX (n+1))=p.all (xX (n+1)))) (λo _=>len-(intOf o).toNat)
 case atStart=>exact⟨0,by omega,rfl,aE _ _,rfl⟩
 case round=>
  obtain⟨k,J,rfl,d,g⟩:=hrel;by_cases C:k<len
  ·obtain⟨b,m⟩:∃b,p[k]?=some b:=⟨p[k]'(by rw[l.out];exact C),aS _⟩;have j:=av (rU (xX (n+1)) p k b m);obtain⟨O,po,rfl,N,⟨Q,R⟩,h⟩:=(iV.below (d.mono s) D).bh k b m;have t:B<=wr.heap.size:=aD s d.size;have E:b.1.size<=9223372036854775807:=by have:=h.1;unfold maxLen at this;omega
   have z:Hid (∀c,ap wr c->au 120 #[af b.2.1.1 b.2.2.length b.2.1.2] c λe w'=>e=.returned (.bool (decide (1<=(b.2.2.length:Int)) && decide ((b.2.2.length:Int)<=6) && b.2.2.all (vC (n+1))))/\ap c w'):=
    λc y=>vw n b.2.2 b.2.2.length rfl b.2.1.1 b.2.1.2 B c (lh (eL (n+1)) (y.mono t) h.2.2) (by have:=h.2.1;unfold maxLen at this;omega) (aD t y.size)
   have i:=av (OX (n+1) b);clear h m;generalize (decide (1<=(b.2.2.length:Int)) && decide ((b.2.2.length:Int)<=6) && b.2.2.all (vC (n+1)))=F at*;have K:(0:Int)<=(k:Int):=by omega
   have L:(k:Int)<(len:Int):=by omega
   have q:=λc=>av (jd b.1 c E);generalize eh b.1=G at*;generalize xX (n+1) b=P at*;have u:ap w (wr.alloc (.cells #[ag b.1,af b.2.1.1 b.2.2.length b.2.1.2] 176)):=d.trans ((aT _ _).mono d.size);cases G with
   | false=>
    go_wp2_with (go_at_call 115;refine(q _).mono ?_;rintro e w' ⟨rfl,rfl⟩)
    go_ret
    exact⟨bY (by rw[<-g.out,j.out,i.out];rfl),u⟩
   | true=>
    go_wp2_with (first|(go_at_call 115;refine(q _).mono ?_;rintro e w' ⟨rfl,rfl⟩)|(go_at_call 120;refine(z _ (aT _ _)).mono ?_;rintro e c ⟨rfl,v⟩;have x:ap w c:=u.trans (v.mono (by have:=d.size;simp;omega));clear v;cases F))
    ·go_ret
     exact⟨bY (by rw[<-g.out,j.out,i.out];rfl),x⟩
    ·go_roundw
     case rel=>exact⟨k+1,by omega,by go_num,x,by rw[<-g.out,j.out,i.out];rfl⟩
     case measure=>simp[intOf];omega
  ·go_wp2_with fail
   go_ret
   refine⟨bY ?_,d⟩;rw[<-g.out,kj (by rw[l.out];omega)];rfl
theorem iX(s:aq)(w:ah):au 148 #[ag s] w λe w'=>e=.returned (.agg #[ae 2,ae 0,ag s,af none 0 0])/\w'=w.alloc (.cells #[ae 2,ae 0,ag s,af none 0 0] 54):=by
 go_enter func148,ntmps148;go_wp2_with fail;exact aB (v:=.agg #[ae 2,ae 0,ag s,af none 0 0]) (by simp[results,results148,go_sem]) rfl ⟨rfl,rfl⟩
theorem fW(a:aw)(l c:Nat)(w:ah):au 150 #[af a l c] w λe w'=>e=.returned (.agg #[ae 4,ae 0,ag ⟨#[]⟩,af a l c])/\w'=w.alloc (.cells #[ae 4,ae 0,ag ⟨#[]⟩,af a l c] 54):=by
 go_enter func150,ntmps150;go_wp2_with fail;exact aB (v:=.agg #[ae 4,ae 0,ag ⟨#[]⟩,af a l c]) (by simp[results,results150,go_sem]) rfl ⟨rfl,rfl⟩
def iT(B N:Nat)(c:Tm N)(w:ah)(e:Ending)(w':ah):Prop:=
 ∃a:Tm N,e=.returned (dE N a)/\Hid (ap w w'/\In w'.heap.size w' N a/\cE (λb=>b<B\/w.heap.size<=b) N a/\aH N a N c=true)
abbrev eG(n B base:Nat)(xs:List (Tm n))(v:ax)(w0 wr:ah):Prop:=fC (λB w x=>In B w n x) (λP x=>cE P n x) (kX n) 4 54 B base xs v w0 wr
theorem pX(n:Nat)(x:Tm n):(kX n x).length=4:=rfl
theorem iz(s:aq)(N:Nat)(a:s.size<=maxLen)(B:Nat)(w:ah):In B w (N+1) (bO s N):=⟨⟨by simp[bO,dm],by simp[bO,dm],a,by simp[bO],by simp[bO]⟩,ak rfl⟩
theorem La(k a:Int)(N:Nat)(b:dm k)(c:dm a)(B:Nat)(w:ah):In B w (N+1) (cv k a N):=⟨⟨b,c,aK _,by simp[cv],by simp[cv]⟩,ak rfl⟩
theorem pD(s:aq)(N:Nat)(P:aU):cE P (N+1) (bO s N):=ak rfl
theorem Gm{o:Nat}{x:Tm n}(d:In B w0 n x)(a:∀(j:Nat)(c:ax),(kX n x)[j]?=some c->w.cell? ⟨b,o+j,none⟩=some c):ee w b o n x:=by
 cases n with
 | zero=>exact d.elim
 | succ n=>exact⟨a 0 _ rfl,a 1 _ rfl,a 2 _ rfl,a 3 _ rfl⟩
theorem eG.tells{xs ys:List (Tm N)}(p:eG N B base xs v w0 wr)(x:w.heap.size<=base)(s:aL (λa b=>aH N a N b) xs ys=true)(u:∀b,b<B\/base<=b->b<wr.heap.size->w'.heap[b]?=wr.heap[b]?)(t:wr.heap.size<=w'.heap.size)(g:ap w w'):∃a c,v=af a xs.length c/\iT B (N+1) (dR N ys) w (.returned (.agg #[ae 4,ae 0,ag ⟨#[]⟩,af a xs.length c])) w':=by
 have j:=eC N;obtain⟨a,c,f,m,n,e⟩:=p.lay j (pX N);refine⟨a,c,f,((4,0,.empty),(a,c),xs),rfl,g,⟨⟨by simp[dm],by simp[dm],aK _,m.1,m.2⟩,?_⟩,?_,dB rfl s⟩
 ·have q:=(cZ j 4 (kX N) a).2.1 _ _ _ _ e n;have r:=(cZ j 4 (kX N) a).2.2.1 _ _ wr w' _ (λb l=>u b l.1 l.2) q n;have d:=(cZ j 4 (kX N) a).2.2.2.1 _ _ _ _ t r;rcases d with d|⟨b,o,f,g,d⟩
  ·exact ak d
  ·exact am ⟨b,o,f,g,λk i h=>⟨Gm (d k i h).2 (d k i h).1,(d k i h).2⟩⟩
 ·rcases e with e|⟨b,o,f,g,e⟩
  ·exact ak e
  ·exact am ⟨b,o,f,by omega,λk i h=>(e i (aR h)).mono λb g=>by omega⟩
theorem pV(xs:List (Tm N))(a:ap w w1)(r:g=w1.heap.size)(p:L=xs.length)(e:Below (w1.alloc (.cells cs 54)).heap.size (w1.alloc (.cells cs 54)) w')(q:cs.toList=xs.flatMap (kX N))(u:xs.length<=8)(i:B<=w.heap.size)(f:∀y∈xs,In B w N y):iT B (N+1) (dR N xs) w (.returned (.agg #[ae 4,ae 0,ag ⟨#[]⟩,af (some ⟨g,0,none⟩) L L])) w':=by
 have o:=fC.lit (T:=54) (k:=4) (B:=B) (base:=w1.heap.size) (eC N) xs (w0:=w1) q (pX N) (by unfold maxLen;omega) (ay _) (aE _ _) (λy d=>⟨((f y d).below (a.mono i)).mono (aD i a.size),(pL (f y d)).mono λb h=>ak h⟩);have j:ap w (w1.alloc (.cells cs 54)):=a.trans ((aT _ _).mono a.size);obtain⟨s,c,l,k⟩:=eG.tells o a.size (jp _ _ λy d=>my (f y d)) (λb _ h=>e.block b h) e.size (j.trans (e.mono j.size));injection l with m t n;subst m n p r;exact k
theorem io:ap w (((w.alloc f).alloc h).alloc i)/\w.heap.size+1+1+1=(((w.alloc f).alloc h).alloc i).heap.size:=
 ⟨((aT _ _).alloc (by simp) _).alloc (by simp;omega) _,by simp⟩
theorem uh{a:Obj}:ap w ((((w.alloc f).alloc h).alloc i).alloc a)/\w.heap.size+1+1+1+1=((((w.alloc f).alloc h).alloc i).alloc a).heap.size:=
 ⟨(((aT _ _).alloc (by simp) _).alloc (by simp;omega) _).alloc (by simp;omega) _,by simp⟩
theorem wP:ap w (w.alloc o).drew:=(aT _ _).drew
theorem aX:ap w (w.alloc o):=aT _ _
theorem oz(s:aq)(a:s.size<=8):s.size<=maxLen:=by unfold maxLen;omega
theorem AX(n:Nat)(t x:Tm (n+1))(s:aq)(v:Int)(B:Nat)(w:ah)(b:In B w (n+1) t)(c:In B w (n+1) x)(h:B<=w.heap.size):au 201 #[.agg #[ae 1,ae t.1.1,ae t.1.2.1,ag t.1.2.2,af t.2.1.1 t.2.2.length t.2.1.2,ae x.1.1,ae x.1.2.1,ag x.1.2.2,af x.2.1.1 x.2.2.length x.2.1.2,ag s,ae v]] w (iT B (n+2) (dR (n+1) [bO oK n,t,x]) w):=by
 have f:Hid (∀e∈[bO oK n,t,x],In B w (n+1) e):=λe d=>by
  simp only[co,gh,gj]at d;rcases d with rfl|rfl|rfl
  ·exact iz _ _ (oz _ (by decide)) _ _
  ·exact b
  ·exact c
 clear b c;go_enter func201,ntmps201;go_wp2_with fail
 go_region_held3 (λa=>(a.cell? ⟨w.heap.size,1,none⟩=some (ae t.1.1)/\a.cell? ⟨w.heap.size,2,none⟩=some (ae t.1.2.1)/\a.cell? ⟨w.heap.size,3,none⟩=some (ag t.1.2.2)/\a.cell? ⟨w.heap.size,4,none⟩=some (af t.2.1.1 t.2.2.length t.2.1.2))/\
     (a.cell? ⟨w.heap.size,5,none⟩=some (ae x.1.1)/\a.cell? ⟨w.heap.size,6,none⟩=some (ae x.1.2.1)/\a.cell? ⟨w.heap.size,7,none⟩=some (ag x.1.2.2)/\a.cell? ⟨w.heap.size,8,none⟩=some (af x.2.1.1 x.2.2.length x.2.1.2))) (first|(go_keep;done)|(simp[go_sem];done))
  ((first|(go_at_call 148;refine(iX _ _).mono ?_;rintro g i ⟨rfl,rfl⟩)|(go_at_call 150;refine(fW _ _ _ _).mono ?_;rintro g i ⟨rfl,rfl⟩)))
 go_wp2_with fail;exact aB (v:=.agg #[ae 4,ae 0,ag ⟨#[]⟩,af (some ⟨w.heap.size+1+1+1,0,none⟩) 3 3]) (by simp[results,results201,go_sem]) rfl (pV [bO oK n,t,x] io.1 io.2 rfl wP rfl (by simp) h f)
theorem AW(n:Nat)(t x:Tm (n+1))(s:aq)(v:Int)(B:Nat)(w:ah)(b:In B w (n+1) t)(g:B<=w.heap.size):au 201 #[.agg #[ae 3,ae t.1.1,ae t.1.2.1,ag t.1.2.2,af t.2.1.1 t.2.2.length t.2.1.2,ae x.1.1,ae x.1.2.1,ag x.1.2.2,af x.2.1.1 x.2.2.length x.2.1.2,ag s,ae v]] w (iT B (n+2) (dR (n+1) [bO oJ n,t]) w):=by
 have e:Hid (∀d∈[bO oJ n,t],In B w (n+1) d):=λd c=>by
  simp only[co,gh,gj]at c;rcases c with rfl|rfl
  ·exact iz _ _ (oz _ (by decide)) _ _
  ·exact b
 clear b;go_enter func201,ntmps201;go_wp2_with fail
 go_region_held3 (λa=>a.cell? ⟨w.heap.size,1,none⟩=some (ae t.1.1)/\a.cell? ⟨w.heap.size,2,none⟩=some (ae t.1.2.1)/\a.cell? ⟨w.heap.size,3,none⟩=some (ag t.1.2.2)/\a.cell? ⟨w.heap.size,4,none⟩=some (af t.2.1.1 t.2.2.length t.2.1.2)) (first|(go_keep;done)|(simp[go_sem];done))
  ((first|(go_at_call 148;refine(iX _ _).mono ?_;rintro f h ⟨rfl,rfl⟩)|(go_at_call 150;refine(fW _ _ _ _).mono ?_;rintro f h ⟨rfl,rfl⟩)))
 go_wp2_with fail;exact aB (v:=.agg #[ae 4,ae 0,ag ⟨#[]⟩,af (some ⟨w.heap.size+1+1+1,0,none⟩) 2 2]) (by simp[results,results201,go_sem]) rfl (pV [bO oJ n,t] io.1 io.2 rfl wP rfl (by simp) g e)
theorem AY(n:Nat)(K:Int)(g:(K==1)=false)(h:(K==2)=false)(i:(K==3)=false)(t x:Tm (n+1))(s:aq)(v:Int)(B:Nat)(w:ah)(e:B<=w.heap.size):au 201 #[.agg #[ae K,ae t.1.1,ae t.1.2.1,ag t.1.2.2,af t.2.1.1 t.2.2.length t.2.1.2,ae x.1.1,ae x.1.2.1,ag x.1.2.2,af x.2.1.1 x.2.2.length x.2.1.2,ag s,ae v]] w (iT B (n+2) (dR (n+1) [bO oL n]) w):=by
 have c:Hid (∀b∈[bO oL n],In B w (n+1) b):=λb a=>by
  simp only[co,gh,gj]at a;subst a;exact iz _ _ (oz _ (by decide)) _ _
 go_enter func201,ntmps201;go_wp2_with (first|(go_at_call 148;refine(iX _ _).mono ?_;rintro d f ⟨rfl,rfl⟩)|(go_at_call 150;refine(fW _ _ _ _).mono ?_;rintro d f ⟨rfl,rfl⟩));exact aB (v:=.agg #[ae 4,ae 0,ag ⟨#[]⟩,af (some ⟨w.heap.size+1+1+1,0,none⟩) 1 1]) (by simp[results,results201,go_sem]) rfl (pV [bO oL n] io.1 io.2 rfl aX rfl (by simp) e c)
theorem xO(n:Nat)(t x:Tm (n+1))(s:aq)(v:Int)(c:dm v)(b:s.size<=maxLen)(B:Nat)(w:ah)(d:In B w (n+1) x)(i:B<=w.heap.size):au 201 #[.agg #[ae 2,ae t.1.1,ae t.1.2.1,ag t.1.2.2,af t.2.1.1 t.2.2.length t.2.1.2,ae x.1.1,ae x.1.2.1,ag x.1.2.2,af x.2.1.1 x.2.2.length x.2.1.2,ag s,ae v]] w (iT B (n+2) (dR (n+1) [bO kB n,bO s n,x,cv 5 v n]) w):=by
 have g:Hid (∀f∈[bO kB n,bO s n,x,cv 5 v n],In B w (n+1) f):=λf e=>by
  simp only[co,gh,gj]at e;rcases e with rfl|rfl|rfl|rfl
  ·exact iz _ _ (oz _ (by decide)) _ _
  ·exact iz _ _ b _ _
  ·exact d
  ·exact La _ _ _ (by simp[dm]) c _ _
 clear d b c;go_enter func201,ntmps201;go_wp2_with fail
 go_region_held3 (λa=>(a.cell? ⟨w.heap.size,9,none⟩=some (ag s)/\a.cell? ⟨w.heap.size,10,none⟩=some (ae v))/\
     (a.cell? ⟨w.heap.size,5,none⟩=some (ae x.1.1)/\a.cell? ⟨w.heap.size,6,none⟩=some (ae x.1.2.1)/\a.cell? ⟨w.heap.size,7,none⟩=some (ag x.1.2.2)/\a.cell? ⟨w.heap.size,8,none⟩=some (af x.2.1.1 x.2.2.length x.2.1.2))) (first|(go_keep;done)|(simp[go_sem];done))
  ((first|(go_at_call 148;refine(iX _ _).mono ?_;rintro h j ⟨rfl,rfl⟩)|(go_at_call 150;refine(fW _ _ _ _).mono ?_;rintro h j ⟨rfl,rfl⟩)))
 all_goals go_wp2_with fail
 all_goals exact aB (v:=.agg #[ae 4,ae 0,ag ⟨#[]⟩,af (some ⟨w.heap.size+1+1+1+1,0,none⟩) 4 4]) (by simp[results,results201,go_sem]) rfl (pV [bO kB n,bO s n,x,cv 5 v n] uh.1 uh.2 rfl wP rfl (by simp) i g)
theorem Dt(n:Nat)(a:Ac (n+1))(B:Nat)(w:ah)(o:jJ (n+1) B w a)(c:B<=w.heap.size):au 201 #[.agg (gX (n+1) a).toArray] w (iT B (n+2) (cN n a) w):=by
 obtain⟨b,⟨t,f⟩,d,e⟩:=a;obtain⟨p,j,k,l,m⟩:=o;unfold cN;by_cases g:b=1
 ·subst g;exact AX n t f d e B w j k c
 by_cases h:b=2
 ·subst h;exact xO n t f d e m l B w k c
 by_cases i:b=3
 ·subst i;exact AW n t f d e B w j c
 ·simp only[g,h,i,if_false];exact AY n b (by simpa using g) (by simpa using h) (by simpa using i) t f d e B w c
theorem FE(xs ys:List (Tm N))(m:base<=w1.heap.size)(p:g=w1.heap.size)(i:L=xs.length)(n:w.heap.size<=base)(s:∀b,b<B\/base<=b->b<(w1.alloc (.cells cs 54)).heap.size->w'.heap[b]?=(w1.alloc (.cells cs 54)).heap[b]?)(r:(w1.alloc (.cells cs 54)).heap.size<=w'.heap.size)(l:ap w w')(o:cs.toList=xs.flatMap (kX N))(u:xs.length<=8)(j:∀y∈xs,In w1.heap.size w1 N y/\cE (λb=>b<B\/base<=b) N y)(q:aL (λa b=>aH N a N b) xs ys=true):iT B (N+1) (dR N ys) w (.returned (.agg #[ae 4,ae 0,ag ⟨#[]⟩,af (some ⟨g,0,none⟩) L L])) w':=by
 have h:=fC.lit (T:=54) (k:=4) (B:=B) (base:=base) (eC N) xs (w0:=w1) o (pX N) (by unfold maxLen;omega) m (aE _ _) j;obtain⟨a,c,d,k⟩:=eG.tells h n q s r l;injection d with e t f;subst e f i p;exact k
theorem eG.slice{xs:List (Tm N)}(b:eG N B base xs v w0 wr):∃a c,v=af a xs.length c:=by
 rcases b.2.1.2 with⟨rfl,d⟩|⟨f,cap,e,rfl,_⟩
 ·exact⟨none,0,by rw[d]⟩
 ·exact⟨_,_,rfl⟩
theorem vh(N:Nat)(x:Tm N):∀b∈kX N x,b.oneCell'=true:=by
 intro b a;simp[kX,wK]at a;rcases a with rfl|rfl|rfl|rfl<;>rfl
theorem AZ(w:ah)(x:Nd)(d:g=w.heap.size):∀j b,(wK x)[j]?=some b->(w.alloc (.cells #[ae x.1.1,ae x.1.2.1,ag x.1.2.2,af x.2.1 x.2.2.1 x.2.2.2] 54)).cell? ((⟨g,0,none⟩:Addr).add j)=some b:=by
 subst d;intro j b a;rw[fD];have:j<4:=(aZ.1 a).1;have c:j=0\/j=1\/j=2\/j=3:=by omega
 rcases c with rfl|rfl|rfl|rfl<;>simp[wK]at a<;>subst a<;>simp[go_sem]
theorem eG.app{xs:List (Tm N)}(f:eG N B base xs v w0 wr)(q:xs.length=k)(h:B<=base)(n:base<=wr.heap.size)(e:ap wr l)(a:Tm N)(j:In l.heap.size l N a)(i:cE (λb=>b<B\/wr.heap.size<=b) N a)(r:w4.ownsRow base 54 4 (af (some ⟨g,0,none⟩) (k+1) c) (k+1) (xs.flatMap (kX N)++kX N a))(p:(l.alloc o).grownBy w4 v.ownBlock)(m:v.ownBlock=some g\/g=l.heap.size+1):eG N B base (xs++ [a]) (af (some ⟨g,0,none⟩) (k+1) c) w0 w4:=by
 subst q;have d:ap l (l.alloc o):=aT _ _;exact fC.step (eC N) f h n (e.trans (d.mono e.size)) a ((j.below d).mono d.size) i r p (by simpa using m)
theorem eG.own{xs:List (Tm N)}(b:eG N B base xs v w0 wr)(c:xs.length=k)(a:ap wr l)(o:Obj):(l.alloc o).ownsRow base 54 4 v k (xs.flatMap (kX N)):=by
 subst c;exact dT b.2.1 (a.trans ((aT _ _).mono a.size))
theorem gY(w:ah)(o:Obj)(a:b<w.heap.size):(w.alloc o).heap[b]?=w.heap[b]? :=(dA w o none).block b a (by simp)
theorem aA{q:Nat}(a:w.heap[q]?=some (.cells cs t))(j:Nat):w.cell? ⟨q,j,none⟩=cs[j]? :=by simp[World.cell?,a]
theorem dq{q:Nat}(a:w.heap[q]?=some (.cells cs t))(j:Nat):w.frozen? ⟨q,j,none⟩=false:=by simp[World.frozen?,a]
theorem kY(w:ah)(a c:Obj):((w.alloc a).alloc c).heap[w.heap.size]?=some a/\((w.alloc a).alloc c).heap[w.heap.size+1]?=some c:=by
 have f:=(gY (w.alloc a) c (b:=w.heap.size) (by simp)).trans (aI w a);have d:=aI (w.alloc a) c;have e:(w.alloc a).heap.size=w.heap.size+1:=by simp
 rw[e]at d;exact⟨f,d⟩
theorem AF{o:Nat}(d:B<=r)(e:r<base)(a:ap W w):∀b,b<B\/base<=b->b<W.heap.size->(dj w r o v0 v1 v2 v3).heap[b]?=W.heap[b]? :=λb f c=>(bv (by omega) _ _ _ _).trans (a.block b c)
theorem dU{o:Nat}(a:ap w W)(d:w.heap.size<=r):ap w (dj W r o v0 v1 v2 v3):=
 ⟨a.os,a.tape,a.output,aD a.size (cQ (bI _ _ _ _).symm),λb c=>(bv (by omega) _ _ _ _).trans (a.block b c)⟩
theorem eG.tup{xs:List (Tm N)}{l:aw}(q:eG N B base xs (af l k d) w0 wr):In wr.heap.size wr (N+1) ((4,0,.empty),(l,d),xs)/\cE (λb=>b<B\/base<=b) (N+1) ((4,0,.empty),(l,d),xs):=by
 obtain⟨s,c,a,m,r,f⟩:=q.lay (eC N) (pX N);injection a with n t p;subst n p;refine⟨⟨⟨by simp[dm],by simp[dm],aK _,m.1,m.2⟩,?_⟩,?_⟩
 ·rcases r with e|⟨b,o,a,j,e⟩
  ·exact ak e
  ·exact am ⟨b,o,a,j,λi h g=>⟨Gm (e i h g).2 (e i h g).1,(e i h g).2⟩⟩
 ·rcases f with f|⟨b,o,a,j,f⟩
  ·exact ak f
  ·exact am ⟨b,o,a,j,λi h g=>f h (aR g)⟩
theorem zQ{s m x:Tm (n+1)}{c:Tm (n+3)}{ys:List (Tm (n+2))}(k:B<=w.heap.size)(p:In B w (n+1) s)(o:In B w (n+1) m)(q:In B w (n+1) x)(l:ap w wr)(j:In wr.heap.size wr (n+3) c/\cE (λb=>b<B\/base<=b) (n+3) c)(u:aH (n+3) c (n+3) (dR (n+2) ys)=true)(g:ap wr w1):(∀y∈[bO Ob (n+2),bi (n+3) (n+1) s,bi (n+3) (n+1) m,c,bi (n+3) (n+1) x],In w1.heap.size w1 (n+3) y/\cE (λb=>b<B\/base<=b) (n+3) y)/\ aL (λa b=>aH (n+3) a (n+3) b) [bO Ob (n+2),bi (n+3) (n+1) s,bi (n+3) (n+1) m,c,bi (n+3) (n+1) x] [bO Ob (n+2),bi (n+3) (n+1) s,bi (n+3) (n+1) m,dR (n+2) ys,bi (n+3) (n+1) x]=true:=by
 have e:∀t:Tm (n+1),In B w (n+1) t->In w1.heap.size w1 (n+3) (bi (n+3) (n+1) t)/\cE (λb=>b<B\/base<=b) (n+3) (bi (n+3) (n+1) t):=λt h=>by
  have i:=pO (n+3) (n+1) (by omega) t B w h;have d:=l.trans (g.mono l.size);exact⟨(i.below (d.mono k)).mono (aD k d.size),(pL i).mono λb d=>ak d⟩
 have f:∀t:Tm (n+1),In B w (n+1) t->aH (n+3) (bi (n+3) (n+1) t) (n+3) (bi (n+3) (n+1) t)=true:=λt h=>my (pO (n+3) (n+1) (by omega) t B w h);refine⟨λy r=>?_,by simp only[aL,f s p,f m o,f x q,u,ex,iJ]⟩;simp only[co,gh,gj]at r;rcases r with rfl|rfl|rfl|rfl|rfl
 ·exact⟨iz _ _ (oz _ (by decide)) _ _,pD _ _ _⟩
 ·exact e s p
 ·exact e m o
 ·exact⟨(j.1.below g).mono g.size,j.2⟩
 ·exact e x q
theorem gN(N n:Nat)(x:Tm (n+1)):kX (N+1) (bi (N+1) (n+1) x)=kX (n+1) x:=by
 unfold kX;rw[Nw]
theorem zP(n:Nat)(s m x:Tm (n+1))(a:aw)(b k:Nat)(xs:List (Tm (n+2)))(c:xs.length=k):[ae 2,ae 0,ag ⟨#[111,110]⟩,af none 0 0,ae s.1.1,ae s.1.2.1,ag s.1.2.2,af s.2.1.1 s.2.2.length s.2.1.2,ae m.1.1,ae m.1.2.1,ag m.1.2.2,af m.2.1.1 m.2.2.length m.2.1.2,ae 4,ae 0,ag ⟨#[]⟩,af a k b,ae x.1.1,ae x.1.2.1,ag x.1.2.2,af x.2.1.1 x.2.2.length x.2.1.2]=
     List.flatMap (kX (n+3)) [bO Ob (n+2),bi (n+3) (n+1) s,bi (n+3) (n+1) m,((4,0,.empty),(a,b),xs),bi (n+3) (n+1) x]:=by
 show _=kX (n+3) (bO Ob (n+2))++(kX (n+3) (bi (n+3) (n+1) s)++(kX (n+3) (bi (n+3) (n+1) m)++(kX (n+3) ((4,0,.empty),(a,b),xs)++(kX (n+3) (bi (n+3) (n+1) x)++ []))));rw[gN,gN,gN,<-c];rfl
theorem mJ{b:Type}(f:j->b)(p:List j)(k:Nat)(x:j)(a:p[k]?=some x):(p.take (k+1)).map f=(p.take k).map f++ [f x]:=by
 rw[dJ,a];simp
def QX(n B:Nat)(p:List (Ac (n+1)))(w0:ah)(base k:Nat)(v:ax)(wr:ah):Prop:=
 ∃a,a.length=k/\eG (n+2) B base a v w0 wr/\aL (λc b=>aH (n+2) c (n+2) b) a ((p.take k).map (cN n))=true
theorem uQ(n:Nat)(s m x:Tm (n+1))(p:List (Ac (n+1)))(len:Nat)(an:Hid (p.length=len))(bw:len<=8)(a:aw)(pc:Nat)(B:Nat)(w:ah)(be:Hid (In B w (n+1) s))(ba:Hid (In B w (n+1) m))(bg:Hid (In B w (n+1) x))(bc:Hid (Lay B w 11 (gX (n+1)) (jJ (n+1) B w) a p))(ab:B<=w.heap.size)(Y:Tm (n+4))(a4:Hid (Y=eA n ((s,m,x),(a,pc),p))):au 174 #[.agg #[ae s.1.1,ae s.1.2.1,ag s.1.2.2,af s.2.1.1 s.2.2.length s.2.1.2,ae m.1.1,ae m.1.2.1,ag m.1.2.2,af m.2.1.1 m.2.2.length m.2.1.2,af a len pc,ae x.1.1,ae x.1.2.1,ag x.1.2.2,af x.2.1.1 x.2.2.length x.2.1.2]] w (iT B (n+4) Y w):=by
 obtain⟨bh,hit,ao,aq,ar⟩:=bR gL;have G:=av (⟨hit,ao,aq,ar⟩:_/\_/\_/\_);clear hit ao aq ar;go_enter func174,ntmps174;go_wp2_with fail;have F:=av (kY w (.cells #[ae s.1.1,ae s.1.2.1,ag s.1.2.2,af s.2.1.1 s.2.2.length s.2.1.2,ae m.1.1,ae m.1.2.1,ag m.1.2.2,af m.2.1.1 m.2.2.length m.2.1.2,af a len pc,ae x.1.1,ae x.1.2.1,ag x.1.2.2,af x.2.1.1 x.2.2.length x.2.1.2] 229) (.cells #[ae 0,ae 0,ag ⟨#[]⟩,af none 0 0] 54));generalize O:(w.alloc _).alloc _=z;rw[O]at F;have J:Hid (ap w z/\z.heap.size=w.heap.size+2):=by
  subst O;exact⟨(aT _ _).alloc (by simp) _,by simp⟩
 have S:Hid (∀wr,Below (w.heap.size+2) z wr->ap w wr):=λwr u=>J.out.1.trans (u.mono (by omega));go_loopw [3,9] (λv R wr=>∃(k:Nat)(aC:ax),k<=len/\R=ae k/\aC=v/\Hid (QX n B p z (w.heap.size+2) k aC wr)) (λ_ R _=>len-(intOf R).toNat)
 case atStart=>exact⟨0,_,by omega,rfl,rfl,[],rfl,fC.nil _,rfl⟩
 case round=>
  obtain⟨k,v,bx,rfl,rfl,W⟩:=hrel;obtain⟨t,r,i,L⟩:∃t:List (Tm (n+2)),Hid (t.length=k)/\Hid (eG (n+2) B (w.heap.size+2) t v z wr)/\Hid (aL (λa b=>aH (n+2) a (n+2) b) t ((p.take k).map (cN n))=true):=W.out;clear W;have E:=av (S.out wr i.out.1);have a7:w.heap.size+2<=wr.heap.size:=by have:=i.out.1.size;have:=J.out.2;omega
  by_cases a9:k<len
  ·obtain⟨e,Q⟩:∃e,p[k]?=some e:=⟨p[k]'(by rw[an.out];exact a9),aS _⟩;have aI:=av (mJ (cN n) p k e Q);obtain⟨bi,po,rfl,bC,⟨bj,⟨bk,bm,bn,bo⟩,⟨bp,bq,br,bs⟩,bt,bl⟩,al⟩:=(lh (fU (n+1)) (E.out.mono ab) bc.out).ac k e Q;have ad:B<=wr.heap.size:=by omega
   have T:Hid (∀w1,ap wr w1->au 201 #[.agg #[ae e.1,ae e.2.1.1.1.1,ae e.2.1.1.1.2.1,ag e.2.1.1.1.2.2,af e.2.1.1.2.1.1 e.2.1.1.2.2.length e.2.1.1.2.1.2,ae e.2.1.2.1.1,ae e.2.1.2.1.2.1,ag e.2.1.2.1.2.2,af e.2.1.2.2.1.1 e.2.1.2.2.2.length e.2.1.2.2.1.2,ag e.2.2.1,ae e.2.2.2]] w1 (iT B (n+2) (cN n e) w1)):=
    λw1 ay=>Dt n e B w1 ((fU (n+1)).below (ay.mono ad) al) (aD ad ay.size)
   clear al Q;generalize cN n e=bu at*;have bz:(0:Int)<=(k:Int):=by omega
   have bA:(k:Int)<(len:Int):=by omega
   have bD:bi<wr.heap.size:=by omega
   obtain⟨j,l,C⟩:=i.out.slice;rw[r.out]at C;subst C;go_wp2_with fail;refine(T.out _ aX).mono ?_;rintro N D ⟨y,rfl,H⟩;have K:Hid (ap wr D):=aX.trans (H.out.1.mono (by simp));have Z:dE (n+2) y=.agg (bf y):=rfl;rw[Z];have aK:=λ(o:Obj)(g c:Nat)(w4:ah) bb a8 a5=>av (i.out.app r.out (by omega) a7 K.out y H.out.2.1 (H.out.2.2.1.mono λb a6=>by simp at a6;omega) (o:=o) (g:=g) (c:=c) (w4:=w4) bb a8 a5);have bv:wr.heap.size<=D.heap.size:=K.out.size;clear Z T bj bk bm bn bo bp bq br bs bt bl;go_wp2_with (at_builtin;refine wpList_append_lies _ rfl _ _ 52 rfl (w.heap.size+2) 54 bh _ 4 56 underlying52 G.out.1 G.out.2.1 G.out.2.2.1 G.out.2.2.2 rfl (by decide) (af j k l) k (t.flatMap (kX (n+2))) (by simp[Act.eval]) (i.out.own r.out K.out _) ⟨D.heap.size,0,none⟩ 1 1 (kX (n+2) y) (by simp[Act.eval]) rfl (AZ D (gK (n+2) y) rfl) (vh _ _) (by decide) (by unfold maxLen;omega) (by omega) (by simp;omega) (D.heap.size+1) (by simp) ?_;intro a2 M w4 am ak aj bB;have aJ:=aK _ a2 M w4 am ak aj;clear am ak aj);go_roundw
   case rel=>exact⟨k+1,_,by omega,by go_num,rfl,t++ [y],by simp[r.out],aJ.out,by rw[aI.out];exact jq _ _ _ _ _ L.out H.out.2.2.2⟩
   case measure=>simp[intOf];omega
  ·obtain rfl:k=len:=by omega
   obtain⟨j,l,C⟩:=i.out.slice;rw[r.out]at C;subst C;have f:=av (And.intro ((i.out.1.block w.heap.size (by omega)).trans F.out.1) ((i.out.1.block (w.heap.size+1) (by omega)).trans F.out.2));have aO:wr.cell? ⟨w.heap.size,0,none⟩=some (ae s.1.1):=aA f.out.1 0;have aP:wr.cell? ⟨w.heap.size,1,none⟩=some (ae s.1.2.1):=aA f.out.1 1;have aV:wr.cell? ⟨w.heap.size,2,none⟩=some (ag s.1.2.2):=aA f.out.1 2;have aW:wr.cell? ⟨w.heap.size,3,none⟩=some (af s.2.1.1 s.2.2.length s.2.1.2):=aA f.out.1 3;have M:wr.cell? ⟨w.heap.size,4,none⟩=some (ae m.1.1):=aA f.out.1 4;have aY:wr.cell? ⟨w.heap.size,5,none⟩=some (ae m.1.2.1):=aA f.out.1 5;have aZ:wr.cell? ⟨w.heap.size,6,none⟩=some (ag m.1.2.2):=aA f.out.1 6;have a0:wr.cell? ⟨w.heap.size,7,none⟩=some (af m.2.1.1 m.2.2.length m.2.1.2):=aA f.out.1 7;have a1:wr.cell? ⟨w.heap.size,9,none⟩=some (ae x.1.1):=aA f.out.1 9;have aQ:wr.cell? ⟨w.heap.size,10,none⟩=some (ae x.1.2.1):=aA f.out.1 10;have aR:wr.cell? ⟨w.heap.size,11,none⟩=some (ag x.1.2.2):=aA f.out.1 11;have aU:wr.cell? ⟨w.heap.size,12,none⟩=some (af x.2.1.1 x.2.2.length x.2.1.2):=aA f.out.1 12;have d0:wr.cell? ⟨w.heap.size+1,0,none⟩=some (ae 0):=aA f.out.2 0;have d1:wr.cell? ⟨w.heap.size+1,1,none⟩=some (ae 0):=aA f.out.2 1;have d2:wr.cell? ⟨w.heap.size+1,2,none⟩=some (ag ⟨#[]⟩):=aA f.out.2 2;have d3:wr.cell? ⟨w.heap.size+1,3,none⟩=some (af none 0 0):=aA f.out.2 3;have f0:=λI=>dq f.out.2 I;have bd:w.heap.size<wr.heap.size:=by omega
   have A:w.heap.size+1<wr.heap.size:=by omega
   have U:Hid (∀d,ap wr d->(d.cell? ⟨w.heap.size,0,none⟩=some (ae s.1.1)/\d.cell? ⟨w.heap.size,1,none⟩=some (ae s.1.2.1)/\d.cell? ⟨w.heap.size,2,none⟩=some (ag s.1.2.2)/\d.cell? ⟨w.heap.size,3,none⟩=some (af s.2.1.1 s.2.2.length s.2.1.2))/\
     (d.cell? ⟨w.heap.size,4,none⟩=some (ae m.1.1)/\d.cell? ⟨w.heap.size,5,none⟩=some (ae m.1.2.1)/\d.cell? ⟨w.heap.size,6,none⟩=some (ag m.1.2.2)/\d.cell? ⟨w.heap.size,7,none⟩=some (af m.2.1.1 m.2.2.length m.2.1.2))/\
     (d.cell? ⟨w.heap.size,9,none⟩=some (ae x.1.1)/\d.cell? ⟨w.heap.size,10,none⟩=some (ae x.1.2.1)/\d.cell? ⟨w.heap.size,11,none⟩=some (ag x.1.2.2)/\d.cell? ⟨w.heap.size,12,none⟩=some (af x.2.1.1 x.2.2.length x.2.1.2))):=λd u=>by
    have h:=λo=>az u w.heap.size o bd;exact⟨⟨(h _).trans aO,(h _).trans aP,(h _).trans aV,(h _).trans aW⟩,⟨(h _).trans M,(h _).trans aY,(h _).trans aZ,(h _).trans a0⟩,(h _).trans a1,(h _).trans aQ,(h _).trans aR,(h _).trans aU⟩
   have X:Hid True:=trivial;have aF:=λ(w1:ah)(a3:ap wr w1)=>av (zQ (base:=w.heap.size+2) (ys:=p.map (cN n)) (w1:=w1) ab be.out ba.out bg.out E.out i.out.tup (dB rfl (by have u:=L.out;rw[bF (by rw[an.out];omega)]at u;exact u)) a3);have aG:=av r.out;clear O i r L f S J F;go_wp2_with fail
   go_region_held3 (λd=>(d.cell? ⟨w.heap.size,0,none⟩=some (ae s.1.1)/\d.cell? ⟨w.heap.size,1,none⟩=some (ae s.1.2.1)/\d.cell? ⟨w.heap.size,2,none⟩=some (ag s.1.2.2)/\d.cell? ⟨w.heap.size,3,none⟩=some (af s.2.1.1 s.2.2.length s.2.1.2))/\
       (d.cell? ⟨w.heap.size,4,none⟩=some (ae m.1.1)/\d.cell? ⟨w.heap.size,5,none⟩=some (ae m.1.2.1)/\d.cell? ⟨w.heap.size,6,none⟩=some (ag m.1.2.2)/\d.cell? ⟨w.heap.size,7,none⟩=some (af m.2.1.1 m.2.2.length m.2.1.2))/\
       (d.cell? ⟨w.heap.size,9,none⟩=some (ae x.1.1)/\d.cell? ⟨w.heap.size,10,none⟩=some (ae x.1.2.1)/\d.cell? ⟨w.heap.size,11,none⟩=some (ag x.1.2.2)/\d.cell? ⟨w.heap.size,12,none⟩=some (af x.2.1.1 x.2.2.length x.2.1.2))) (first|(go_keep;done)|exact U.out _ q.out|(refine U.out _ ?_;go_grown;done))
    ((first
     | (go_at_call 148;refine(iX _ _).mono ?_;rintro N w1 ⟨rfl,rfl⟩)
     | (go_at_call 150;have aN:=X;clear X;refine(fW _ _ _ _).mono ?_;rintro N w1 ⟨rfl,rfl⟩)
     | (go_at_call 150;clear aN;refine(fW _ _ _ _).mono ?_;rintro N aE ⟨rfl,P⟩;have q:=av (show ap wr aE by rw[P];go_grown);have aM:=av P;clear P;replace d0:=(az q.out _ _ A).trans d0;replace d1:=(az q.out _ _ A).trans d1;replace d2:=(az q.out _ _ A).trans d2;replace d3:=(az q.out _ _ A).trans d3;replace f0:=λI=>(gZ q.out _ I A).trans (f0 I))))
   go_wp2_with fail;refine aB (v:=.agg #[ae 4,ae 0,ag ⟨#[]⟩,af (some ⟨wr.heap.size+1+1,0,none⟩) 5 5]) (by simp[results,results174,go_sem,d0,d1,d2,d3]) rfl ?_;rw[a4.out];have ai:ap wr ((wr.alloc (.cells #[ae 2,ae 0,ag ⟨#[111,110]⟩,af none 0 0] 54)).alloc (.cells #[ae 4,ae 0,ag ⟨#[]⟩,af j k l] 54)):=by go_grown
   have aa:Below (((wr.alloc (.cells #[ae 2,ae 0,ag ⟨#[111,110]⟩,af none 0 0] 54)).alloc (.cells #[ae 4,ae 0,ag ⟨#[]⟩,af j k l] 54)).alloc (.cells #[ae 2,ae 0,ag ⟨#[111,110]⟩,af none 0 0,ae s.1.1,ae s.1.2.1,ag s.1.2.2,af s.2.1.1 s.2.2.length s.2.1.2,ae m.1.1,ae m.1.2.1,ag m.1.2.2,af m.2.1.1 m.2.2.length m.2.1.2,ae 4,ae 0,ag ⟨#[]⟩,af j k l,ae x.1.1,ae x.1.2.1,ag x.1.2.2,af x.2.1.1 x.2.2.length x.2.1.2] 54)).heap.size (((wr.alloc (.cells #[ae 2,ae 0,ag ⟨#[111,110]⟩,af none 0 0] 54)).alloc (.cells #[ae 4,ae 0,ag ⟨#[]⟩,af j k l] 54)).alloc (.cells #[ae 2,ae 0,ag ⟨#[111,110]⟩,af none 0 0,ae s.1.1,ae s.1.2.1,ag s.1.2.2,af s.2.1.1 s.2.2.length s.2.1.2,ae m.1.1,ae m.1.2.1,ag m.1.2.2,af m.2.1.1 m.2.2.length m.2.1.2,ae 4,ae 0,ag ⟨#[]⟩,af j k l,ae x.1.1,ae x.1.2.1,ag x.1.2.2,af x.2.1.1 x.2.2.length x.2.1.2] 54)) aE:=by rw[aM.out];go_grown
   have V:=aF _ ai;exact FE (B:=B) (base:=w.heap.size+2) _ _ (by have:=ai.size;omega) (by simp) rfl (by omega) (AF (by omega) (by omega) aa) (aD aa.size (cQ (bI _ _ _ _).symm)) (dU (E.out.trans (q.out.mono E.out.size)) (by omega)) (zP n s m x j l k t aG.out) (by show 5<=8;omega) V.out.1 V.out.2
theorem xi(n:Nat)(c:Cl (n+1))(B:Nat)(w:ah)(a:iP (n+1) B w c)(e:c.2.2.length<=8)(f:B<=w.heap.size):au 174 #[.agg (fF (n+1) c).toArray] w (iT B (n+4) (eA n c) w):=by
 obtain⟨⟨h,g,i⟩,⟨d,pc⟩,b⟩:=c;exact uQ n h g i b b.length rfl e d pc B w a.1.1 a.1.2.1 a.1.2.2 a.2.2 f _ rfl
def Q0(n B:Nat)(d:List (Tm (n+4)))(p:List (Cl (n+1)))(w0:ah)(base k:Nat)(v:ax)(wr:ah):Prop:=
 ∃a,a.length=k+2/\eG (n+4) B base a v w0 wr/\aL (λc b=>aH (n+4) c (n+4) b) a (d++(p.take k).map (eA n))=true
theorem rC(n:Nat)(s:aq)(a9:s.size<=maxLen)(p:List (Cl (n+1)))(len:Nat)(ay:Hid (p.length=len))(bw:len<=6)(a1:Hid (∀c∈p,c.2.2.length<=8))(a:aw)(pc:Nat)(B:Nat)(w:ah)(a8:Hid (Lay B w 13 (fF (n+1)) (iP (n+1) B w) a p))(a2:B<=w.heap.size)(Z:Tm (n+5))(a3:Hid (Z=eO n (s,(a,pc),p))):au 149 #[.agg #[ag s,af a len pc]] w (iT B (n+5) Z w):=by
 obtain⟨bb,hit,aF,aG,aI⟩:=bR gL;have A:=av (⟨hit,aF,aG,aI⟩:_/\_/\_/\_);clear hit aF aG aI;go_enter func149,ntmps149;go_wp2_with fail;have O:=av (kY w (.cells #[ag s,af a len pc] 176) (.cells #[ae 0,ae 0,ag ⟨#[]⟩,af none 0 0] 54)).2;have z:=av (kY w (.cells #[ag s,af a len pc] 176) (.cells #[ae 0,ae 0,ag ⟨#[]⟩,af none 0 0] 54)).1;generalize P:(w.alloc _).alloc _=e;rw[P]at O z;have i:Hid (ap w e/\e.heap.size=w.heap.size+2):=by
  subst P;exact⟨(aT _ _).alloc (by simp) _,by simp⟩
 have aM:Hid (∀wr,Below (w.heap.size+2) e wr->ap w wr):=λwr f=>i.out.1.trans (f.mono (by omega));clear P;have aa:ai e w.heap.size 0 (ag s):=aA z.out 0;have ab:ai e w.heap.size 1 (af a len pc):=aA z.out 1;have aC:w.heap.size<e.heap.size:=by have:=i.out.2;omega
 have M:Hid (∀w',ap e w'->ai w' w.heap.size 0 (ag s)/\ai w' w.heap.size 1 (af a len pc)):=λw' f=>⟨(az f _ _ aC).trans aa,(az f _ _ aC).trans ab⟩;clear z
 go_region_held3 (λw'=>w'.cell? ⟨w.heap.size,0,none⟩=some (ag s)/\w'.cell? ⟨w.heap.size,1,none⟩=some (af a len pc)) (first|(go_keep;done)|(refine M.out _ ?_;go_grown;done))
  ((go_at_call 148;refine(iX _ _).mono ?_;rintro D w1 ⟨rfl,rfl⟩))
 have X:Hid (aL (λa b=>aH (n+4) a (n+4) b) [bO xq (n+3),bO s (n+3)] ([bO xq (n+3),bO s (n+3)]++(p.take 0).map (eA n))=true):=by
  show _=true;simp[aL,ex]
 have L:Hid (eG (n+4) B (w.heap.size+2) [bO xq (n+3),bO s (n+3)] (af (some ⟨e.heap.size+1+1,0,none⟩) 2 2) e (((e.alloc (.cells #[ae 2,ae 0,ag ⟨#[98,101,104]⟩,af none 0 0] 54)).alloc (.cells #[ae 2,ae 0,ag s,af none 0 0] 54)).alloc (.cells #[ae 2,ae 0,ag ⟨#[98,101,104]⟩,af none 0 0,ae 2,ae 0,ag s,af none 0 0] 54)).drew):=by
  have f:=fC.lit (T:=54) (k:=4) (B:=B) (base:=w.heap.size+2) (eC (n+4)) [bO xq (n+3),bO s (n+3)] (w0:=e) (w1:=(e.alloc (.cells #[ae 2,ae 0,ag ⟨#[98,101,104]⟩,af none 0 0] 54)).alloc (.cells #[ae 2,ae 0,ag s,af none 0 0] 54)) (cs:= #[ae 2,ae 0,ag ⟨#[98,101,104]⟩,af none 0 0,ae 2,ae 0,ag s,af none 0 0]) rfl (pX _) (by show 2<=maxLen;unfold maxLen;omega) (by have:=i.out.2;simp;omega) (((aE _ _).alloc (by have:=i.out.2;omega) _).alloc (by have:=i.out.2;simp;omega) _) (λd l=>by
   simp only[co,gh,gj]at l;rcases l with rfl|rfl
   ·exact⟨iz _ _ (oz _ (by decide)) _ _,pD _ _ _⟩
   ·exact⟨iz _ _ a9 _ _,pD _ _ _⟩)
  have D:((e.alloc (.cells #[ae 2,ae 0,ag ⟨#[98,101,104]⟩,af none 0 0] 54)).alloc (.cells #[ae 2,ae 0,ag s,af none 0 0] 54)).heap.size=e.heap.size+1+1:=by simp
  rw[D]at f;exact f.later (eC _) (by have:=i.out.2;simp;omega) (aE _ _).drew
 have N:=av (M.out _ (show ap e (((e.alloc (.cells #[ae 2,ae 0,ag ⟨#[98,101,104]⟩,af none 0 0] 54)).alloc (.cells #[ae 2,ae 0,ag s,af none 0 0] 54)).alloc (.cells #[ae 2,ae 0,ag ⟨#[98,101,104]⟩,af none 0 0,ae 2,ae 0,ag s,af none 0 0] 54)).drew by go_grown));generalize ak:(((e.alloc _).alloc _).alloc _).drew=aW;rw[ak]at L N;have bE:ai aW w.heap.size 1 (af a len pc):=N.out.2;clear ak M N aa ab;go_wp2_with fail;go_loopw [3,14] (λv R wr=>∃(k:Nat)(aK:ax),k<=len/\R=ae k/\aK=v/\Hid (Q0 n B ([bO xq (n+3),bO s (n+3)]) p e (w.heap.size+2) k aK wr)) (λ_ R _=>len-(intOf R).toNat)
 case atStart=>exact⟨0,_,by omega,rfl,rfl,_,rfl,L.out,X.out⟩
 case round=>
  clear L X;obtain⟨k,v,bx,rfl,rfl,Y⟩:=hrel;obtain⟨r,m,h,W⟩:∃r:List (Tm (n+4)),Hid (r.length=k+2)/\Hid (eG (n+4) B (w.heap.size+2) r v e wr)/\Hid (aL (λa b=>aH (n+4) a (n+4) b) r (([bO xq (n+3),bO s (n+3)])++(p.take k).map (eA n))=true):=Y.out;clear Y;have K:=av (aM.out wr h.out.1);have am:w.heap.size+2<=wr.heap.size:=by have:=h.out.1.size;have:=i.out.2;omega
  by_cases a6:k<len
  ·obtain⟨d,l⟩:∃d,p[k]?=some d:=⟨p[k]'(by rw[ay.out];exact a6),aS _⟩;have aO:=av (mJ (eA n) p k d l);obtain⟨bc,po,rfl,bC,⟨⟨bd,be,bj,bk⟩,⟨bl,bm,bn,bo⟩,bp,bq,bg,bh,bi⟩,ao⟩:=(lh (eL (n+1)) (K.out.mono a2) a8.out).cl k d l;have aj:B<=wr.heap.size:=by omega
   have aU:=av l
   have V:Hid (∀w1,ap wr w1->au 174 #[.agg #[ae d.1.1.1.1,ae d.1.1.1.2.1,ag d.1.1.1.2.2,af d.1.1.2.1.1 d.1.1.2.2.length d.1.1.2.1.2,ae d.1.2.1.1.1,ae d.1.2.1.1.2.1,ag d.1.2.1.1.2.2,af d.1.2.1.2.1.1 d.1.2.1.2.2.length d.1.2.1.2.1.2,af d.2.1.1 d.2.2.length d.2.1.2,ae d.1.2.2.1.1,ae d.1.2.2.1.2.1,ag d.1.2.2.1.2.2,af d.1.2.2.2.1.1 d.1.2.2.2.2.length d.1.2.2.2.1.2]] w1 (iT B (n+4) (eA n d) w1)):=
    λw1 F=>xi n d B w1 ((eL (n+1)).below (F.mono aj) ao) (a1.out d (aR aU.out)) (aD aj F.size)
   clear ao l;generalize eA n d=br at*;have bz:(0:Int)<=(k:Int):=by omega
   have bA:(k:Int)<(len:Int):=by omega
   have bD:bc<wr.heap.size:=by omega
   obtain⟨H,I,x⟩:=h.out.slice;rw[m.out]at x;subst x;go_wp2_with fail;refine(V.out _ aX).mono ?_;rintro D y ⟨t,rfl,C⟩;have J:Hid (ap wr y):=aX.trans (C.out.1.mono (by simp));have E:dE (n+4) t=.agg (bf t):=rfl;rw[E];have aQ:=λ(o:Obj)(g c:Nat)(w4:ah) a7 a5 a4=>av (h.out.app m.out (by omega) am J.out t C.out.2.1 (C.out.2.2.1.mono λb Q=>by simp at Q;omega) (o:=o) (g:=g) (c:=c) (w4:=w4) a7 a5 a4);have bv:wr.heap.size<=y.heap.size:=J.out.size;clear E V bd be bj bk bl bm bn bo bp bq bg bh bi;go_wp2_with (at_builtin;refine wpList_append_lies _ rfl _ _ 52 rfl (w.heap.size+2) 54 bb _ 4 56 underlying52 A.out.1 A.out.2.1 A.out.2.2.1 A.out.2.2.2 rfl (by decide) (af H (k+2) I) (k+2) (r.flatMap (kX (n+4))) (by simp[Act.eval]) (h.out.own m.out J.out _) ⟨y.heap.size,0,none⟩ 1 1 (kX (n+4) t) (by simp[Act.eval]) rfl (AZ y (gK (n+4) t) rfl) (vh _ _) (by decide) (by unfold maxLen;omega) (by omega) (by simp;omega) (y.heap.size+1) (by simp) ?_;intro a0 aY w4 ar an al bB;have aP:=aQ _ a0 aY w4 ar an al;clear ar an al);go_roundw
   case rel=>exact⟨k+1,_,by omega,by go_num,rfl,r++ [t],by have:=m.out;simp;omega,aP.out,by rw[aO.out,<-lw];exact jq _ _ _ _ _ W.out C.out.2.2.2⟩
   case measure=>simp[intOf];omega
  ·obtain rfl:k=len:=by omega
   obtain⟨H,I,x⟩:=h.out.slice;rw[m.out]at x;subst x;have q:=av ((h.out.1.block (w.heap.size+1) (by omega)).trans O.out);have d0:wr.cell? ⟨w.heap.size+1,0,none⟩=some (ae 0):=aA q.out 0;have d1:wr.cell? ⟨w.heap.size+1,1,none⟩=some (ae 0):=aA q.out 1;have d2:wr.cell? ⟨w.heap.size+1,2,none⟩=some (ag ⟨#[]⟩):=aA q.out 2;have d3:wr.cell? ⟨w.heap.size+1,3,none⟩=some (af none 0 0):=aA q.out 3;have f0:=λG=>dq q.out G;have u:w.heap.size+1<wr.heap.size:=by omega
   have aN:=λ(aV w':ah) Q F ba=>av (eG.tells (w:=w) (ys:=([bO xq (n+3),bO s (n+3)])++p.map (eA n)) (w':=w') (h.out.later (eC _) am (w1:=aV) Q) (by omega) (by have f:=W.out;rw[bF (by rw[ay.out];omega)]at f;exact f) F ba);clear q O;go_wp2_with (go_at_call 150;refine(fW _ _ _ _).mono ?_;rintro D S ⟨rfl,aJ⟩;have j:=av (show ap wr S by rw[aJ];go_grown);clear aJ;replace d0:=(az j.out _ _ u).trans d0;replace d1:=(az j.out _ _ u).trans d1;replace d2:=(az j.out _ _ u).trans d2;replace d3:=(az j.out _ _ u).trans d3;replace f0:=λG=>(gZ j.out _ G u).trans (f0 G));refine aB (v:=.agg #[ae 4,ae 0,ag ⟨#[]⟩,af H (k+2) I]) (by simp[results,results149,go_sem,d0,d1,d2,d3]) rfl ?_;rw[a3.out];obtain⟨bs,bt,ad,U⟩:=(aN S (dj S (w.heap.size+1) 0 (ae 4) (ae 0) (ag ⟨#[]⟩) (af H (k+2) I)) j.out (AF (by omega) (by omega) (aE _ _)) (cQ (bI _ _ _ _).symm)).out (dU (K.out.trans (j.out.mono K.out.size)) (by omega));rw[m.out]at ad U;injection ad with aZ bu E;subst aZ E;exact U
theorem sL(n:Nat)(b:Bh (n+1))(B:Nat)(w:ah)(a:rM (n+1) B w b)(f:b.2.2.length<=6)(g:∀c∈b.2.2,c.2.2.length<=8)(h:B<=w.heap.size):au 149 #[.agg (rJ (n+1) b).toArray] w (iT B (n+5) (eO n b) w):=by
 obtain⟨i,⟨e,pc⟩,d⟩:=b;exact rC n i a.1 d d.length rfl f g e pc B w a.2.2 h _ rfl
def Q2(n B:Nat)(d:List (Tm (n+5)))(p:List (Bh (n+1)))(w0:ah)(base k:Nat)(v:ax)(wr:ah):Prop:=
 ∃a,a.length=k+1/\eG (n+5) B base a v w0 wr/\aL (λc b=>aH (n+5) c (n+5) b) a (d++(p.take k).map (eO n))=true
theorem tO(n:Nat)(p:List (Bh (n+1)))(len:Nat)(am:Hid (p.length=len))(bc:len<=7)(Y:Hid (∀b∈p,b.2.2.length<=6/\∀c∈b.2.2,c.2.2.length<=8))(a:aw)(pc:Nat)(B:Nat)(w:ah)(a0:Hid (iV (n+1) B w a p))(aQ:B<=w.heap.size)(W:Tm (n+6))(aU:Hid (W=cW n p)):au 121 #[af a len pc] w (iT B (n+6) W w):=by
 obtain⟨a2,hit,an,ao,aq⟩:=bR gL;have y:=av (⟨hit,an,ao,aq⟩:_/\_/\_/\_);clear hit an ao aq;go_enter func121,ntmps121;go_wp2_with (go_at_call 148;refine(iX _ _).mono ?_;rintro A w1 ⟨rfl,rfl⟩);have K:=av (aI w (.cells #[ae 0,ae 0,ag ⟨#[]⟩,af none 0 0] 54));have S:Hid (aL (λa b=>aH (n+5) a (n+5) b) [bO pw (n+4)] ([bO pw (n+4)]++(p.take 0).map (eO n))=true):=by
  show _=true;simp[aL,ex]
 generalize L:w.alloc (.cells #[ae 0,ae 0,ag ⟨#[]⟩,af none 0 0] 54)=e;rw[L]at K;have s:Hid (ap w e/\e.heap.size=w.heap.size+1):=by
  subst L;exact⟨aT _ _,by simp⟩
 have aC:Hid (∀wr,Below (w.heap.size+1) e wr->ap w wr):=λwr i=>s.out.1.trans (i.mono (by omega));clear L;have J:Hid (eG (n+5) B (w.heap.size+1) [bO pw (n+4)] (af (some ⟨w.heap.size+1+1,0,none⟩) 1 1) e ((e.alloc (.cells #[ae 2,ae 0,ag ⟨#[99,111,100,101]⟩,af none 0 0] 54)).alloc (.cells #[ae 2,ae 0,ag ⟨#[99,111,100,101]⟩,af none 0 0] 54))):=by
  have i:=fC.lit (T:=54) (k:=4) (B:=B) (base:=w.heap.size+1) (eC (n+5)) [bO pw (n+4)] (w0:=e) (w1:=e.alloc (.cells #[ae 2,ae 0,ag ⟨#[99,111,100,101]⟩,af none 0 0] 54)) (cs:= #[ae 2,ae 0,ag ⟨#[99,111,100,101]⟩,af none 0 0]) rfl (pX _) (by show 1<=maxLen;unfold maxLen;omega) (by have:=s.out.2;simp;omega) ((aE _ _).alloc (by have:=s.out.2;omega) _) (λd j=>by
   simp only[co,gh,gj]at j;subst j
   exact⟨iz _ _ (oz _ (by decide)) _ _,pD _ _ _⟩)
  have A:(e.alloc (.cells #[ae 2,ae 0,ag ⟨#[99,111,100,101]⟩,af none 0 0] 54)).heap.size=w.heap.size+1+1:=by have:=s.out.2;simp;omega
  rw[A]at i;exact i
 generalize aa:(e.alloc _).alloc _=a6;rw[aa]at J;clear aa;go_loopw [3,10] (λv N wr=>∃(k:Nat)(ay:ax),k<=len/\N=ae k/\ay=v/\Hid (Q2 n B ([bO pw (n+4)]) p e (w.heap.size+1) k ay wr)) (λ_ N _=>len-(intOf N).toNat)
 case atStart=>exact⟨0,_,by omega,rfl,rfl,_,rfl,J.out,S.out⟩
 case round=>
  clear J S;obtain⟨k,v,bd,rfl,rfl,U⟩:=hrel;obtain⟨q,l,f,R⟩:∃q:List (Tm (n+5)),Hid (q.length=k+1)/\Hid (eG (n+5) B (w.heap.size+1) q v e wr)/\Hid (aL (λa b=>aH (n+5) a (n+5) b) q (([bO pw (n+4)])++(p.take k).map (eO n))=true):=U.out;clear U;have I:=av (aC.out wr f.out.1);have ad:w.heap.size+1<=wr.heap.size:=by have:=f.out.1.size;have:=s.out.2;omega
  by_cases aY:k<len
  ·obtain⟨d,j⟩:∃d,p[k]?=some d:=⟨p[k]'(by rw[am.out];exact aY),aS _⟩;have aG:=av (mJ (eO n) p k d j);obtain⟨a3,po,rfl,bj,⟨a4,a5⟩,ak⟩:=(iV.below (I.out.mono aQ) a0.out).bh k d j;have Z:B<=wr.heap.size:=by omega
   have V:=av j
   have Q:Hid (∀w1,ap wr w1->au 149 #[.agg #[ag d.1,af d.2.1.1 d.2.2.length d.2.1.2]] w1 (iT B (n+5) (eO n d) w1)):=
    λw1 D=>sL n d B w1 ((eK (n+1)).below (D.mono Z) ak) (Y.out d (aR V.out)).1 (Y.out d (aR V.out)).2 (aD Z D.size)
   clear ak j;generalize eO n d=a7 at*;have be:(0:Int)<=(k:Int):=by omega
   have bg:(k:Int)<(len:Int):=by omega
   have bk:a3<wr.heap.size:=by omega
   obtain⟨F,G,u⟩:=f.out.slice;rw[l.out]at u;subst u;go_wp2_with fail;refine(Q.out _ aX).mono ?_;rintro A x ⟨r,rfl,z⟩;have H:Hid (ap wr x):=aX.trans (z.out.1.mono (by simp));have C:dE (n+5) r=.agg (bf r):=rfl;rw[C];have aK:=λ(o:Obj)(g c:Nat)(w4:ah) aZ aW aV=>av (f.out.app l.out (by omega) ad H.out r z.out.2.1 (z.out.2.2.1.mono λb M=>by simp at M;omega) (o:=o) (g:=g) (c:=c) (w4:=w4) aZ aW aV);have bb:wr.heap.size<=x.heap.size:=H.out.size;clear C Q a4 a5;go_wp2_with (at_builtin;refine wpList_append_lies _ rfl _ _ 52 rfl (w.heap.size+1) 54 a2 _ 4 56 underlying52 y.out.1 y.out.2.1 y.out.2.2.1 y.out.2.2.2 rfl (by decide) (af F (k+1) G) (k+1) (q.flatMap (kX (n+5))) (by simp[Act.eval]) (f.out.own l.out H.out _) ⟨x.heap.size,0,none⟩ 1 1 (kX (n+5) r) (by simp[Act.eval]) rfl (AZ x (gK (n+5) r) rfl) (vh _ _) (by decide) (by unfold maxLen;omega) (by omega) (by simp;omega) (x.heap.size+1) (by simp) ?_;intro aP aN w4 al aj ab bi;have aJ:=aK _ aP aN w4 al aj ab;clear al aj ab);go_roundw
   case rel=>exact⟨k+1,_,by omega,by go_num,rfl,q++ [r],by have:=l.out;simp;omega,aJ.out,by rw[aG.out,<-lw];exact jq _ _ _ _ _ R.out z.out.2.2.2⟩
   case measure=>simp[intOf];omega
  ·obtain rfl:k=len:=by omega
   obtain⟨F,G,u⟩:=f.out.slice;rw[l.out]at u;subst u;have m:=av ((f.out.1.block (w.heap.size) (by omega)).trans K.out);have d0:ai wr w.heap.size 0 (ae 0):=aA m.out 0;have d1:ai wr w.heap.size 1 (ae 0):=aA m.out 1;have d2:ai wr w.heap.size 2 (ag ⟨#[]⟩):=aA m.out 2;have d3:ai wr w.heap.size 3 (af none 0 0):=aA m.out 3;have f0:=λE=>dq m.out E;have t:w.heap.size<wr.heap.size:=by omega
   have aF:=λ(aM w':ah) M D a1=>av (eG.tells (w:=w) (ys:=([bO pw (n+4)])++p.map (eO n)) (w':=w') (f.out.later (eC _) ad (w1:=aM) M) (by omega) (by have i:=R.out;rw[bF (by rw[am.out];omega)]at i;exact i) D a1);clear m K;go_wp2_with (go_at_call 150;refine(fW _ _ _ _).mono ?_;rintro A O ⟨rfl,ar⟩;have h:=av (show ap wr O by rw[ar];go_grown);clear ar;replace d0:=(az h.out _ _ t).trans d0;replace d1:=(az h.out _ _ t).trans d1;replace d2:=(az h.out _ _ t).trans d2;replace d3:=(az h.out _ _ t).trans d3;replace f0:=λE=>(gZ h.out _ E t).trans (f0 E));refine aB (v:=.agg #[ae 4,ae 0,ag ⟨#[]⟩,af F (k+1) G]) (by simp[results,results121,go_sem,d0,d1,d2,d3]) rfl ?_;rw[aU.out];obtain⟨a8,a9,X,P⟩:=(aF O (dj O (w.heap.size) 0 (ae 4) (ae 0) (ag ⟨#[]⟩) (af F (k+1) G)) h.out (AF (by omega) (by omega) (aE _ _)) (cQ (bI _ _ _ _).symm)).out (dU (I.out.trans (h.out.mono I.out.size)) (by omega));rw[l.out]at X P;injection X with aO ba C;subst aO C;exact P
theorem uR(n:Nat)(p:List (Bh (n+1)))(a:aw)(pc:Nat)(B:Nat)(w:ah)(g:iV (n+1) B w a p)(d:p.length<=7)(e:∀b∈p,b.2.2.length<=6/\∀c∈b.2.2,c.2.2.length<=8)(f:B<=w.heap.size):au 121 #[af a p.length pc] w (iT B (n+6) (cW n p) w):=
 tO n p p.length rfl d e a pc B w g f _ rfl
def zT(N:Nat):Tm (N+1):=((0,0,.empty),(none,0),[])
def oI(n:Nat)(p:List (Bh (n+1))):Int:=if lj (n+1) p then bJ (n+6) (cW n p)else 5
def Jt(n:Nat)(p:List (Bh (n+1))):Tm (n+6):=if oI n p=0 then cW n p else zT (n+5)
def JY(B n:Nat)(p:List (Bh (n+1)))(w:ah)(e:Ending)(w':ah):Prop:=
 ∃a:Tm (n+6),e=.returned (.tuple #[dE (n+6) a,ae (oI n p)])/\Hid (ap w w'/\In w'.heap.size w' (n+6) a/\cE (λb=>b<B\/w.heap.size<=b) (n+6) a/\aH (n+6) a (n+6) (Jt n p)=true)
theorem mf(N B:Nat)(w:ah):In B w (N+1) (zT N):=⟨⟨by simp[zT,dm],by simp[zT,dm],aK _,by simp[zT],by simp[zT]⟩,ak rfl⟩
theorem GN{p:List (Bh (n+1))}{k:Int}(b:ap w w')(c:k=oI n p)(a:¬k=0):JY B n p w (.returned (.tuple #[.agg #[ae 0,ae 0,ag .empty,af none 0 0],ae k])) w':=by
 subst c;refine⟨zT (n+5),rfl,b,mf _ _ _,ak rfl,?_⟩;unfold Jt;rw[if_neg a];exact my (mf _ 0 w)
theorem yQ{p:List (Bh n)}(a:lj n p=true):p.length<=7/\∀b∈p,b.2.2.length<=6/\∀c∈b.2.2,c.2.2.length<=8:=by
 simp only[lj,xX,vC,aO,cT,cX]at a;refine⟨by omega,λb d=>⟨by have:=(a.2 b d).1.2;omega,λc e=>by have:=((a.2 b d).2 c e).1;omega⟩⟩
theorem rX(w:ah)(v0 v1 v2 v3:ax)(t:TypeId)(a:Below (w.alloc (.cells #[v0,v1,v2,v3] t)).heap.size (w.alloc (.cells #[v0,v1,v2,v3] t)) w'):w'.heap[w.heap.size]?=some (.cells #[v0,v1,v2,v3] t):=
 (a.block _ (by simp)).trans (aI w _)
theorem Me(n:Nat)(p:List (Bh (n+1)))(a:aw)(pc:Nat)(aq:p.length<=pc)(ad:pc<=maxLen)(B:Nat)(w:ah)(L:iV (n+1) B w a p)(A:B<=w.heap.size)(ab:lj (n+1) p=true->(aF (n+6) (cW n p)).length<=2097152):au 82 #[af a p.length pc] w (JY B n p w):=by
 have Q:Hid (∀d,ap w d->au 81 #[af a p.length pc] d λk m=>k=.returned (.bool (lj (n+1) p))/\ap d m):=
  λd s=>qy n p p.length rfl a pc B d (L.below (s.mono A)) (by unfold maxLen at ad;omega) (aD A s.size)
 have G:Hid (lj (n+1) p=true->∀d,ap w d->au 121 #[af a p.length pc] d (iT B (n+6) (cW n p) d)):=
  λs d z=>uR n p a pc B d (L.below (z.mono A)) (yQ s).1 (yQ s).2 (aD A z.size)
 have x:Hid (oI n p=if lj (n+1) p then bJ (n+6) (cW n p)else 5):=rfl;have R:=av ab;have T:Hid (Jt n p=if oI n p=0 then cW n p else zT (n+5)):=rfl;clear L ab aq ad;generalize p.length=len at*;generalize lj (n+1) p=aE at*;go_enter func82,ntmps82;go_wp2_with fail;refine(Q _ aX).mono ?_;rintro k d ⟨rfl,J⟩;have h:=av (rX w _ _ _ _ _ J);have r:Hid (ap w d):=aX.trans (J.mono (by simp));have ar:w.heap.size<d.heap.size:=(aN.1 h).1;clear J Q;cases aE
 ·have d0:ai d w.heap.size 0 (ae 0):=aA h 0;have d1:ai d w.heap.size 1 (ae 0):=aA h 1;have d2:ai d w.heap.size 2 (ag ⟨#[]⟩):=aA h 2;have d3:ai d w.heap.size 3 (af none 0 0):=aA h 3;have f0:=λu=>dq h u;clear G h;go_wp2_with fail;exact aB (v:=.tuple #[.agg #[ae 0,ae 0,ag .empty,af none 0 0],ae 5]) (by simp[results,results82,go_sem,d0,d1,d2,d3];rfl) rfl (GN (dU r (ay _)) (by rw[x.out];rfl) (by omega))
 ·have S:=av (G rfl d r);go_wp2_with fail;refine S.mono ?_;rintro k g ⟨f,rfl,j⟩;have M:Hid (ap w g):=r.trans (j.1.mono r.size);have Y:dE (n+6) f=.agg (bf f):=rfl;have O:Hid (∀c,ap g c->au 53 #[.agg (bf f)] c λk m=>k=.returned (ae (oI n p))/\ap c m):=λc t=>by
   have:=dV (n+6) f g.heap.size c (j.2.1.below t) t.size (by rw[lm _ _ _ _ j.out.2.2.2];exact R (by simp));rw[bN j.out.2.2.2]at this;rw[x.out];exact this
  have F:Hid (oI n p=0->∀c,ap g c->au 91 #[.agg (bf f)] c λk m=>∃e:Tm (n+6),k=.returned (dE (n+6) e)/\Hid (ap c m/\In m.heap.size m (n+6) e/\cE (λaC=>c.heap.size<=aC) (n+6) e/\aH (n+6) e (n+6) f=true)):=λan c t=>
   iB (n+6) f g.heap.size c (j.2.1.below t) t.size (aW.2 (by have z:bJ (n+6) (cW n p)=0:=(by simpa [x.out]using an);rw[jZ _ _ _ _ j.out.2.2.2];exact(bS.1 z).1))
  have al:=av j.2.2.2;have H:=av ((j.1.block _ ar).trans h);have ax:w.heap.size<g.heap.size:=(aN.1 H).1;rw[Y];clear G S h r j Y R;generalize aa:oI n p=C at*;have P:=av aa;clear aa x;go_wp2_with fail;refine(O _ aX).mono ?_;rintro k c ⟨rfl,K⟩;have E:Hid (ap g c):=aX.trans (K.mono (by simp));have D:Hid (ap w c):=M.trans (E.mono M.size);have y:=av (rX g _ _ _ _ _ K);have i:=av ((E.block _ ax).trans H);have az:w.heap.size<c.heap.size:=(aN.1 i).1;have U:ai c g.heap.size 0 (ae f.1.1):=aA y 0;have V:ai c g.heap.size 1 (ae f.1.2.1):=aA y 1;have W:ai c g.heap.size 2 (ag f.1.2.2):=aA y 2;have X:ai c g.heap.size 3 (af f.2.1.1 f.2.2.length f.2.1.2):=aA y 3;clear K O H;by_cases I:C=0
  ·subst I;have aj:=av (F rfl c E);clear F;go_wp2_with fail;refine aj.mono ?_;rintro k q ⟨e,rfl,l⟩;have o:=av ((l.1.block _ az).trans i);have N:Hid (ap w q):=D.trans (l.1.mono D.size);have d0:ai q w.heap.size 0 (ae 0):=aA o 0;have d1:ai q w.heap.size 1 (ae 0):=aA o 1;have d2:ai q w.heap.size 2 (ag ⟨#[]⟩):=aA o 2;have d3:ai q w.heap.size 3 (af none 0 0):=aA o 3;have f0:=λu=>dq o u;have Z:dE (n+6) e=.agg (bf e):=rfl;rw[Z];have ak:Hid (JY B n p w (.returned (.tuple #[.agg (bf e),ae 0])) (dj q w.heap.size 0 (ae e.1.1) (ae e.1.2.1) (ag e.1.2.2) (af e.2.1.1 e.2.2.length e.2.1.2))):=by
    refine⟨e,by rw[P.out];rfl,dU N (ay _),?_,l.2.2.1.mono λb ao=>am (by omega),?_⟩
    ·rw[bI];exact In.off (λb ao=>bv (by omega) _ _ _ _) l.2.2.1 l.2.1
    ·rw[show Jt n p=cW n p from by simpa using T.out];exact bU _ _ _ _ _ _ l.2.2.2 al
   clear o i l N U V W X Z T;go_wp2_with fail;exact aB (v:=.tuple #[.agg (bf e),ae 0]) (by simp[results,results82,go_sem,d0,d1,d2,d3]) rfl ak
  ·have d0:ai c w.heap.size 0 (ae 0):=aA i 0;have d1:ai c w.heap.size 1 (ae 0):=aA i 1;have d2:ai c w.heap.size 2 (ag ⟨#[]⟩):=aA i 2;have d3:ai c w.heap.size 3 (af none 0 0):=aA i 3;have f0:=λu=>dq i u;have aG:(C !=0)=true:=by simpa using I
   clear i F U V W X;go_wp2_with fail;exact aB (v:=.tuple #[.agg #[ae 0,ae 0,ag .empty,af none 0 0],ae C]) (by simp[results,results82,go_sem,d0,d1,d2,d3];rfl) rfl (GN (dU D (ay _)) P.symm I)
theorem eG.ownAt{xs:List (Tm N)}(a:eG N B base xs v w0 wr)(c:xs.length=k)(b:ap wr W):W.ownsRow base 54 4 v k (xs.flatMap (kX N)):=by
 subst c;exact dT a.2.1 b
theorem eG.appAt{xs:List (Tm N)}(d:eG N B base xs v w0 wr)(n:xs.length=k)(f:B<=base)(l:base<=wr.heap.size)(e:ap wr W)(a:Tm N)(i:In W.heap.size W N a)(h:cE (λb=>b<B\/wr.heap.size<=b) N a)(o:w4.ownsRow base 54 4 (af (some ⟨g,0,none⟩) (k+1) c) (k+1) (xs.flatMap (kX N)++kX N a))(m:W.grownBy w4 v.ownBlock)(j:v.ownBlock=some g\/g=W.heap.size):eG N B base (xs++ [a]) (af (some ⟨g,0,none⟩) (k+1) c) w0 w4:=by
 subst n;exact fC.step (eC N) d f l e a i h o m j
theorem sw(a:ah)(o:Obj)(b:g=a.heap.size):(a.alloc o).drew.heap[g]?=some o:=by
 subst b;exact aI a o
theorem yG(a:ah)(o:Obj)(b:g=a.heap.size):(a.alloc o).heap[g]?=some o:=by
 subst b;exact aI a o
def PL(b:Nat)(name:aq)(a:Wd)(mv:ax):cP:=⟨b,1,[ag name],[ae a.1,ae a.2,mv],195⟩
def ku(Mh:aU)(ma:aw)(vs:List Wd)(a:Nat)(w:ah):Prop:=
 (ma=none/\vs=[]/\a=0)\/∃c d b,ma=some ⟨c,d,none⟩/\¬Mh c/\w.heap[c]?=some (.cells b 184 (0,0))/\vs.length<=a/\a<=maxLen/\d+a*2<=b.size/\(b.toList.drop d).take (vs.length*2)=bw vs
def kL(N:Nat)(ws:List Wd)(nm:bj)(room:Int)(b:List Wd)(a:List (Tm N)):Prop:=
 gV ws nm N b a/\(b.flatMap (pS ws N)).Nodup/\(∀c∈a,bJ N c=0/\aV N c=true)/\(a.map (sz N)).sum<=(ws.length:Int)/\(ws.length:Int)<=room/\0<=room/\room<=1000/\nm.Nodup
structure cU (base pb:Nat) (name:aq) (room:Int) (N:Nat) (s:Tm N) (ms:List (Tm N)) (xs:List (Wd×Tm N)) (nk:Nat) (M:aU) (w:ah) (ws:List Wd) (nm:bj) (sv:Wd) (vs:List Wd) (ma:aw) (mc:Nat) (Mh:aU):Prop where
 heap:dY base (PL pb name sv (af ma vs.length mc)) room ws nm Mh w
 mail:ku Mh ma vs mc w
 has:kL N ws nm room (sv::vs++xs.map (·.1)) (s::ms++xs.map (·.2))
 len:vs.length=ms.length
 names:nm.length<=nk
 inM:∀b,Mh b->M b
 mailM:∀a,ma=some a->M a.block
theorem dY.box{b:cP}{M:aU}(e:dY base b room ws nm M w):∃tv lv mv,HB b room tv lv mv w/\∃h i,tv=af h ws.length i:=by
 obtain⟨tv,lv,mv,f,g,_⟩:=e;refine⟨tv,lv,mv,f,?_⟩;rcases g.2 with⟨a,d⟩|⟨k,c,j,a,_⟩
 ·exact⟨none,0,by rw[a,d]⟩
 ·exact⟨_,c,a⟩
theorem PL.cells{a:Nat}{name:aq}{b:Wd}{mv:ax}{room:Int}{tv lv mp:ax}{w:ah}(d:HB (PL a name b mv) room tv lv mp w):w.cell? ⟨a,0,none⟩=some (ag name)/\w.cell? ⟨a,5,none⟩=some (ae b.1)/\w.cell? ⟨a,5+1,none⟩=some (ae b.2)/\w.cell? ⟨a,7,none⟩=some mv/\(∀j,w.frozen? ⟨a,j,none⟩=false)/\a<w.heap.size:=by
 have c:w.heap[a]?=some (.cells #[ag name,ae room,tv,lv,mp,ae b.1,ae b.2,mv] 195):=d.2;refine⟨?_,?_,?_,?_,λj=>?_,(aN.1 c).1⟩
 all_goals simp[World.cell?,World.frozen?,c]
def nS(N:Nat)(x:Tm N)(w:ah)(e:Ending)(w':ah):Prop:=∃y:Tm N,e=.returned (dE N y)/\Hid (ap w w'/\In w'.heap.size w' N y/\cE (λq=>w.heap.size<=q) N y/\aH N y N x=true)
theorem Jc(P N:Nat)(x:Tm (N+1))(v:Wd)(w:ah)(K:Hid (∀w1,ap w w1->au 163 #[.pointer (some ⟨P,1,none⟩),.agg #[ae v.1,ae v.2]] w1 λe w'=>∃y:Tm (N+1),e=.returned (.tuple #[.agg (bf y),ae 0])/\Hid (ap w1 w'/\In w'.heap.size w' (N+1) y/\cE (λq=>w1.heap.size<=q) (N+1) y/\aH (N+1) y (N+1) x=true))):au 134 #[aC P,.agg #[ae v.1,ae v.2]] w (nS (N+1) x w):=by
 go_enter func134,ntmps134;go_wp2_with fail;have B:=av (kY w (.cells #[ae v.1,ae v.2] 184) (.cells #[ae 0,ae 0,ag ⟨#[]⟩,af none 0 0] 54));have f:Hid (ap w ((w.alloc (.cells #[ae v.1,ae v.2] 184)).alloc (.cells #[ae 0,ae 0,ag ⟨#[]⟩,af none 0 0] 54))/\((w.alloc (.cells #[ae v.1,ae v.2] 184)).alloc (.cells #[ae 0,ae 0,ag ⟨#[]⟩,af none 0 0] 54)).heap.size=w.heap.size+1+1):=⟨by go_grown,by simp⟩;generalize M:(w.alloc _).alloc _=a;rw[M]at B f;clear M;have T:a.heap.size=w.heap.size+1+1:=f.2;have p:Hid (∀w',ap a w'->ai w' w.heap.size 0 (ae v.1)/\ai w' w.heap.size 1 (ae v.2)):=λw' S=>by
  have L:=(S.block w.heap.size (by omega)).trans B.1;exact⟨aA L 0,aA L 1⟩
 obtain⟨an,ao⟩:=p.out a (aE _ _);have z:Hid (ap a a.drew):=(aE _ _).drew;have A:Hid (ap a (a.alloc (.cells #[ae 0,ae 0,ag ⟨#[]⟩,af none 0 0] 54)).drew):=(show Below _ _ _ by go_grown);have F:Hid ((a.alloc (.cells #[ae 0,ae 0,ag ⟨#[]⟩,af none 0 0] 54)).drew.heap[a.heap.size]?=some (.cells #[ae 0,ae 0,ag ⟨#[]⟩,af none 0 0] 54)/\(a.alloc (.cells #[ae 0,ae 0,ag ⟨#[]⟩,af none 0 0] 54)).drew.heap.size=a.heap.size+1):=⟨sw a _ rfl,by simp⟩;clear T
 go_region_held3 (λw'=>w'.cell? ⟨w.heap.size,0,none⟩=some (ae v.1)/\w'.cell? ⟨w.heap.size,1,none⟩=some (ae v.2)) (first|(go_keep;done)|with_reducible exact p _ z|with_reducible exact p _ A|exact p _ h|exact E _|exact Q _ _ _ _|exact R _ _ _ _ _)
  ((first
   | (go_at_call 163;refine(K _ (f.1.trans (z.mono f.1.size))).mono ?_;rintro e w1 ⟨y,rfl,l⟩;have h:=av (z.trans (l.1.mono z.size));have E:Hid (∀o:Obj,(w1.alloc o).cell? ⟨w.heap.size,0,none⟩=some (ae v.1)/\(w1.alloc o).cell? ⟨w.heap.size,1,none⟩=some (ae v.2)):=λo=>p _ (h.trans (aX.mono h.size));have R:Hid (∀(o:Obj)(m b c n:ax),(dj (w1.alloc o) w1.heap.size 0 m b c n).cell? ⟨w.heap.size,0,none⟩=some (ae v.1)/\(dj (w1.alloc o) w1.heap.size 0 m b c n).cell? ⟨w.heap.size,1,none⟩=some (ae v.2)):=λo m b c n=>by have am:=h.size;have D:=f.2;exact⟨(bL (bv (by omega) m b c n) 0).trans (E o).1,(bL (bv (by omega) m b c n) 1).trans (E o).2⟩)
   | (go_at_call 163;refine(K _ (f.1.trans (A.mono f.1.size))).mono ?_;rintro e w1 ⟨y,rfl,l⟩;have h:=av (A.trans (l.1.mono A.size));have r:=av ((l.1.block _ (by have:=F.2;omega)).trans F.1);have ab:ai w1 a.heap.size 0 (ae 0):=aA r 0;have ad:ai w1 a.heap.size 1 (ae 0):=aA r 1;have aj:ai w1 a.heap.size 2 (ag ⟨#[]⟩):=aA r 2;have ak:ai w1 a.heap.size 3 (af none 0 0):=aA r 3;have al:=λu=>dq r u;have Q:Hid (∀m b c n:ax,(dj w1 a.heap.size 0 m b c n).cell? ⟨w.heap.size,0,none⟩=some (ae v.1)/\(dj w1 a.heap.size 0 m b c n).cell? ⟨w.heap.size,1,none⟩=some (ae v.2)):=λm b c n=>⟨(bL (bv (by have:=f.2;omega) m b c n) 0).trans (p _ h).1,(bL (bv (by have:=f.2;omega) m b c n) 1).trans (p _ h).2⟩)))
 ·have D:=f.2;have i:Hid ((w1.alloc (.cells (bf y) 54)).heap[w.heap.size+1]?=some (.cells #[ae 0,ae 0,ag ⟨#[]⟩,af none 0 0] 54)):=(aX.block _ (by have:=h.size;omega)).trans ((h.block _ (by omega)).trans B.2);have k:Hid ((w1.alloc (.cells (bf y) 54)).heap[w1.heap.size]?=some (.cells (bf y) 54)):=aI _ _;have j:Hid (ap w (w1.alloc (.cells (bf y) 54))/\In (w1.alloc (.cells (bf y) 54)).heap.size (w1.alloc (.cells (bf y) 54)) (N+1) y/\cE (λq=>w.heap.size+2<=q) (N+1) y):=⟨(f.1.trans (h.mono f.1.size)).trans (aX.mono (f.1.trans (h.mono f.1.size)).size),(l.2.1.below aX).mono (by simp),l.2.2.1.mono λq (C:a.heap.size<=q)=>by omega⟩;have s:Hid (∃d,d=(w1.alloc (.cells (bf y) 54))):=⟨_,rfl⟩;obtain⟨d,t⟩:=s.out;rw[<-t]at i k j ⊢;clear t s D;have G:d.cell? ⟨w.heap.size+1,0,none⟩=some (ae 0):=aA i 0;have H:d.cell? ⟨w.heap.size+1,1,none⟩=some (ae 0):=aA i 1;have I:d.cell? ⟨w.heap.size+1,2,none⟩=some (ag ⟨#[]⟩):=aA i 2;have J:d.cell? ⟨w.heap.size+1,3,none⟩=some (af none 0 0):=aA i 3;have Z:=λu=>dq i u;have V:ai d w1.heap.size 0 (ae y.1.1):=aA k 0;have W:ai d w1.heap.size 1 (ae y.1.2.1):=aA k 1;have X:ai d w1.heap.size 2 (ag y.1.2.2):=aA k 2;have Y:ai d w1.heap.size 3 (af y.2.1.1 y.2.2.length y.2.1.2):=aA k 3;go_wp2_with fail;refine aB (v:=.agg (bf y)) (by simp[results,results134,go_sem,G,H,I,J]) rfl ?_;refine⟨y,rfl,dU j.1 (by omega),?_,j.2.2.mono λq C=>by omega,l.2.2.2⟩;have e:=In.off (w':=dj d (w.heap.size+1) 0 (ae y.1.1) (ae y.1.2.1) (ag y.1.2.2) (af y.2.1.1 y.2.2.length y.2.1.2)) (λb (O:w.heap.size+2<=b)=>bv (by omega) _ _ _ _) j.2.2 j.2.1;rw[<-bI (w:=d) (g:=w.heap.size+1) (o:=0) (ae y.1.1) (ae y.1.2.1) (ag y.1.2.2) (af y.2.1.1 y.2.2.length y.2.1.2)]at e;exact e
 ·have D:=f.2;have U:=F.2;have i:Hid ((dj w1 a.heap.size 0 (ae y.1.1) (ae y.1.2.1) (ag y.1.2.2) (af y.2.1.1 y.2.2.length y.2.1.2)).heap[w.heap.size+1]?=some (.cells #[ae 0,ae 0,ag ⟨#[]⟩,af none 0 0] 54)):=(bv (by omega) _ _ _ _).trans ((h.block _ (by omega)).trans B.2)
  have k:Hid ((dj w1 a.heap.size 0 (ae y.1.1) (ae y.1.2.1) (ag y.1.2.2) (af y.2.1.1 y.2.2.length y.2.1.2)).heap[a.heap.size]?=some (.cells (bf y) 54)):=(by
   show _=_
   simp[dj,World.setCell,bQ,r.out])
  have j:Hid (ap w (dj w1 a.heap.size 0 (ae y.1.1) (ae y.1.2.1) (ag y.1.2.2) (af y.2.1.1 y.2.2.length y.2.1.2))/\In (dj w1 a.heap.size 0 (ae y.1.1) (ae y.1.2.1) (ag y.1.2.2) (af y.2.1.1 y.2.2.length y.2.1.2)).heap.size (dj w1 a.heap.size 0 (ae y.1.1) (ae y.1.2.1) (ag y.1.2.2) (af y.2.1.1 y.2.2.length y.2.1.2)) (N+1) y/\cE (λq=>w.heap.size+2<=q) (N+1) y):=by
   refine⟨dU (f.1.trans (h.mono f.1.size)) (by omega),?_,l.2.2.1.mono λq C=>?_⟩
   ·rw[bI];exact In.off (λb (O:(a.alloc (.cells #[ae 0,ae 0,ag ⟨#[]⟩,af none 0 0] 54)).drew.heap.size<=b)=>bv (by omega) _ _ _ _) l.2.2.1 l.2.1
   ·have aa:(a.alloc (.cells #[ae 0,ae 0,ag ⟨#[]⟩,af none 0 0] 54)).drew.heap.size<=q:=C;omega
  have s:Hid (∃d,d=(dj w1 a.heap.size 0 (ae y.1.1) (ae y.1.2.1) (ag y.1.2.2) (af y.2.1.1 y.2.2.length y.2.1.2))):=⟨_,rfl⟩;obtain⟨d,t⟩:=s.out;change Exit.then _ _ Exit.normal _ (dj w1 a.heap.size 0 (ae y.1.1) (ae y.1.2.1) (ag y.1.2.2) (af y.2.1.1 y.2.2.length y.2.1.2));rw[<-t]at i k j ⊢;clear t s D U;have G:d.cell? ⟨w.heap.size+1,0,none⟩=some (ae 0):=aA i 0;have H:d.cell? ⟨w.heap.size+1,1,none⟩=some (ae 0):=aA i 1;have I:d.cell? ⟨w.heap.size+1,2,none⟩=some (ag ⟨#[]⟩):=aA i 2;have J:d.cell? ⟨w.heap.size+1,3,none⟩=some (af none 0 0):=aA i 3;have Z:=λu=>dq i u;have V:ai d a.heap.size 0 (ae y.1.1):=aA k 0;have W:ai d a.heap.size 1 (ae y.1.2.1):=aA k 1;have X:ai d a.heap.size 2 (ag y.1.2.2):=aA k 2;have Y:ai d a.heap.size 3 (af y.2.1.1 y.2.2.length y.2.1.2):=aA k 3;go_wp2_with fail;refine aB (v:=.agg (bf y)) (by simp[results,results134,go_sem,G,H,I,J]) rfl ?_;refine⟨y,rfl,dU j.1 (by omega),?_,j.2.2.mono λq C=>by omega,l.2.2.2⟩;have e:=In.off (w':=dj d (w.heap.size+1) 0 (ae y.1.1) (ae y.1.2.1) (ag y.1.2.2) (af y.2.1.1 y.2.2.length y.2.1.2)) (λb (O:w.heap.size+2<=b)=>bv (by omega) _ _ _ _) j.2.2 j.2.1;rw[<-bI (w:=d) (g:=w.heap.size+1) (o:=0) (ae y.1.1) (ae y.1.2.1) (ag y.1.2.2) (af y.2.1.1 y.2.2.length y.2.1.2)]at e;exact e
theorem pH{x:Tm n}(a:bJ n x=0):aJ ⟨n,x⟩:=aW.2 (bS.1 a).1
section
variable {base pb:Nat} {name:aq} {room:Int} {N:Nat} {s:Tm (N+1)} {ms:List (Tm (N+1))} {xs:List (Wd×Tm (N+1))} {nk:Nat} {M:aU} {w:ah} {ws:List Wd} {nm:bj} {sv:Wd} {vs:List Wd} {ma:aw} {mc:Nat} {Mh:aU}
theorem cU.later(a:cU base pb name room (N+1) s ms xs nk M w ws nm sv vs ma mc Mh){w1:ah}(c:ap w w1):cU base pb name room (N+1) s ms xs nk M w1 ws nm sv vs ma mc Mh:=by
 refine⟨(a.heap.later c).mono λb c=>c.1,?_,a.has,a.len,a.names,a.inM,a.mailM⟩;rcases a.mail with g|⟨e,k,f,h,i,d,j⟩
 ·exact ak g
 ·exact am ⟨e,k,f,h,i,(c.block e (aN.1 d).1).trans d,j⟩
theorem cU.read(a:cU base pb name room (N+1) s ms xs nk M w ws nm sv vs ma mc Mh)(k:nk<=95000){i:Nat}{v:Wd}{x:Tm (N+1)}(e:(sv::vs++xs.map (·.1))[i]?=some v)(c:(s::ms++xs.map (·.2))[i]?=some x):au 134 #[aC pb,.agg #[ae v.1,ae v.2]] w (nS (N+1) x w):=by
 obtain⟨f,l,g,m,n,o,p,q⟩:=a.has;have b:=g x (aR c);have j:=a.names;exact Jc pb N x v w λh d=>KS (N+1) x v base (PL pb name sv (af ma vs.length mc)) room ws nm Mh h ((a.later d).heap) (f.2 i v x e c) (pH b.1) b.2 (by omega) (by omega)
end
theorem FA(e N:Nat)(x:Tm (N+1))(v:Wd)(w:ah)(y:e<w.heap.size)(m:w.cell? ⟨e,5,none⟩=some (ae v.1))(n:w.cell? ⟨e,5+1,none⟩=some (ae v.2))(l:Hid (∀w1,ap w w1->au 134 #[aC e,.agg #[ae v.1,ae v.2]] w1 (nS (N+1) x w1))):au 93 #[aC e] w (nS (N+1) x w):=by
 go_enter func93,ntmps93;go_wp2_with fail;refine(l _ aX).mono ?_;rintro f w1 ⟨a,rfl,d⟩;rw[show dE (N+1) a=.agg (bf a)from rfl];have c:=av (rX w _ _ _ _ _ d.1);have k:Hid (ap w w1):=aX.trans (d.1.mono (by simp));have q:w1.cell? ⟨w.heap.size,0,none⟩=some (ae 0):=aA c 0;have r:w1.cell? ⟨w.heap.size,1,none⟩=some (ae 0):=aA c 1;have s:w1.cell? ⟨w.heap.size,2,none⟩=some (ag ⟨#[]⟩):=aA c 2;have t:w1.cell? ⟨w.heap.size,3,none⟩=some (af none 0 0):=aA c 3;have z:=λp=>dq c p;clear m n;go_wp2_with fail;refine aB (v:=.agg (bf a)) (by simp[results,results93,go_sem,q,r,s,t]) rfl ?_;have i:cE (λh=>w.heap.size+1<=h) (N+1) a:=d.2.2.1.mono λh j=>by simpa using j
 refine⟨a,rfl,dU k (ay _),?_,i.mono λh j=>by omega,d.2.2.2⟩;have f:=In.off (w':=dj w1 w.heap.size 0 (ae a.1.1) (ae a.1.2.1) (ag a.1.2.2) (af a.2.1.1 a.2.2.length a.2.1.2)) (λb (u:w.heap.size+1<=b)=>bv (by omega) _ _ _ _) i d.2.1;rw[<-bI (w:=w1) (g:=w.heap.size) (o:=0) (ae a.1.1) (ae a.1.2.1) (ag a.1.2.2) (af a.2.1.1 a.2.2.length a.2.1.2)]at f;exact f
theorem ku.word(b:ku Mh ma vs d w){i:Nat}{v:Wd}(c:vs[i]?=some v):∃g a,ma=some ⟨g,a,none⟩/\g<w.heap.size/\w.cell? ⟨g,a+i*2,none⟩=some (ae v.1)/\w.cell? ⟨g,a+i*2+1,none⟩=some (ae v.2):=by
 rcases b with⟨_,j,_⟩|⟨g,a,p,m,_,f,q,_,r,n⟩
 ·rw[j]at c;simp at c
 ·have s:=(aZ.1 c).1;have h:∀(l:List Wd)(i:Nat)(v:Wd),l[i]?=some v->(bw l)[i*2]?=some (ae v.1)/\(bw l)[i*2+1]?=some (ae v.2):=by
   intro l
   induction l with
   | nil=>intro i v b;simp at b
   | cons o l ih=>
    intro i v b;cases i with
    | zero=>simp at b;subst b;simp[bw,qF]
    | succ i=>
     have:=ih i v (by simpa using b);simp only[bw,bK,qF]at this ⊢;rw[show (i+1)*2=i*2+2 by omega,show i*2+2+1=(i*2+1)+2 by omega];simpa using this
  have e:∀k,k<vs.length*2->w.cell? ⟨g,a+k,none⟩=(bw vs)[k]? :=λk e=>by
   rw[<-n,jx,if_pos e,jw,nD];simp[World.cell?,f]
  refine⟨g,a,m,(aN.1 f).1,?_,?_⟩
  ·rw[e (i*2) (by omega)];exact(h vs i v c).1
  ·rw[show a+i*2+1=a+(i*2+1) by omega,e (i*2+1) (by omega)];exact(h vs i v c).2
def FT(N:Nat)(ms:List (Tm N))(w:ah)(e:Ending)(w':ah):Prop:=∃(ys:List (Tm N))(L:Nat)(a:aw)(c:Nat),e=.returned (af a L c)/\Hid (ys.length=L/\eG N 0 w.heap.size ys (af a L c) w w'/\aL (λa b=>aH N a N b) ys ms=true)
theorem ID(n N:Nat)(ms:List (Tm (N+1)))(vs:List Wd)(L:Nat)(ma:aw)(Z:Nat)(w:ah)(S:Hid (vs.length=L))(D:Hid (ms.length=L))(ad:L<=1000)(_hpw:n<w.heap.size)(aa:w.cell? ⟨n,7,none⟩=some (af ma L Z))(Q:Hid (∀w1,ap w w1->∀(i:Nat)(v:Wd),vs[i]?=some v->∃g s,ma=some ⟨g,s,none⟩/\g<w.heap.size/\w1.cell? ⟨g,s+i*2,none⟩=some (ae v.1)/\w1.cell? ⟨g,s+i*2+1,none⟩=some (ae v.2)))(M:Hid (∀w1,ap w w1->∀(i:Nat)(v:Wd)(x:Tm (N+1)),vs[i]?=some v->ms[i]?=some x->au 134 #[aC n,.agg #[ae v.1,ae v.2]] w1 (nS (N+1) x w1))):au 94 #[aC n] w (FT (N+1) ms w):=by
 obtain⟨Y,hit,I,J,K⟩:=bR gL;have o:=av (⟨hit,I,J,K⟩:_/\_/\_/\_);clear hit I J K;go_enter func94,ntmps94;go_wp2_with fail;go_loopw [3,11] (λv i wr=>∃(k:Nat)(h:aw)(c:Nat)(j:List (Tm (N+1))),k<=L/\i=ae k/\v=af h k c/\Hid (j.length=k/\eG (N+1) 0 w.heap.size j (af h k c) w wr/\aL (λh b=>aH (N+1) h (N+1) b) j (ms.take k)=true)) (λ_ i _=>L-(intOf i).toNat)
 case atStart=>exact⟨0,none,0,[],by omega,rfl,rfl,rfl,fC.nil _,by simp[aL]⟩
 case round=>
  obtain⟨k,h,c,j,aj,rfl,rfl,e⟩:=hrel;have l:Hid (ap w wr):=e.2.1.1;by_cases G:k<L;rotate_left
  ·obtain rfl:k=L:=by omega
   go_wp2_with fail
   go_ret
   refine⟨j,k,h,c,rfl,e.1,e.2.1,?_⟩;have m:=e.2.2;rw[bF (by rw[D.out];omega)]at m;exact m
  ·obtain⟨v,z⟩:∃v,vs[k]?=some v:=⟨vs[k]'(by rw[S.out];exact G),aS _⟩;obtain⟨x,A⟩:∃x,ms[k]?=some x:=⟨ms[k]'(by rw[D.out];exact G),aS _⟩;have R:=av A;have O:Hid (∀w1,ap w w1->au 134 #[aC n,.agg #[ae v.1,ae v.2]] w1 (nS (N+1) x w1)):=λw1 y=>M w1 y k v x z A;obtain⟨g,s,rfl,ag,d0,d1⟩:=Q wr l k v z;clear z A;have ak:(0:Int)<=(k:Int):=by omega
   have al:(k:Int)<(L:Int):=by omega
   have ai:g<wr.heap.size:=by have:=l.size;omega
   go_wp2_with fail;refine(O _ (l.trans (aX.mono l.size))).mono ?_;rintro ab d ⟨a,rfl,p⟩;rw[show dE (N+1) a=.agg (bf a)from rfl];have u:Hid (ap wr d):=aX.trans (p.1.mono (by simp));have f:Hid (ap wr (d.alloc (.cells (bf a) 54))/\(d.alloc (.cells (bf a) 54)).heap.size=d.heap.size+1/\(d.alloc (.cells (bf a) 54)).heap[d.heap.size]?=some (.cells (bf a) 54)/\In (d.alloc (.cells (bf a) 54)).heap.size (d.alloc (.cells (bf a) 54)) (N+1) a/\cE (λb=>b<0\/wr.heap.size<=b) (N+1) a):=by
    have m:ap d (d.alloc (.cells (bf a) 54)):=aX;refine⟨u.trans (m.mono u.size),by simp,aI _ _,(p.2.1.below m).mono m.size,p.2.2.1.mono λb y=>am ?_⟩;have:wr.heap.size+1<=b:=by simpa using y
    omega
   have B:=λ(r q:Nat)(w4:ah) X U T=>av (e.2.1.appAt (W:=(d.alloc (.cells (bf a) 54))) (w4:=w4) (g:=r) (c:=q) e.1 (aK _) l.size f.1 a f.2.2.2.1 f.2.2.2.2 X U T);have C:=av (e.2.1.ownAt e.1 f.1);have an:w.heap.size<=d.heap.size:=by have:=l.size;have:=u.size;omega
   clear d0 d1;go_wp2_with (at_builtin;refine wpList_append_lies _ rfl _ _ 52 rfl w.heap.size 54 Y _ 4 56 underlying52 o.1 o.2.1 o.2.2.1 o.2.2.2 rfl (by decide) (af h k c) k (j.flatMap (kX (N+1))) (by simp[Act.eval]) C ⟨d.heap.size,0,none⟩ 1 1 (kX (N+1) a) (by simp[Act.eval]) rfl (World.news_of_block (cs:=(bf a)) (t:=54) (fr:=(0,0)) f.2.2.1) (vh _ _) (by decide) (by unfold maxLen;omega) (by omega) (by have:=f.2.1;omega) (d.heap.size+1) f.2.1 ?_;intro r q w4 H F E V;have P:=B r q w4 H F (by rw[f.out.2.1];exact E);clear H F E V B C);go_roundw
   case rel=>
    refine⟨k+1,some ⟨r,0,none⟩,q,j++ [a],by omega,by go_num,rfl,by rw[bm,e.out.1];rfl,P,?_⟩;rw[dJ,R.out];exact jq _ _ _ _ _ e.2.2 p.2.2.2
   case measure=>simp[intOf];omega
section
variable {base pb:Nat} {name:aq} {room:Int} {N:Nat} {s:Tm (N+1)} {ms:List (Tm (N+1))} {xs:List (Wd×Tm (N+1))} {nk:Nat} {M:aU} {w:ah} {ws:List Wd} {nm:bj} {sv:Wd} {vs:List Wd} {ma:aw} {mc:Nat} {Mh:aU}
theorem cU.state(a:cU base pb name room (N+1) s ms xs nk M w ws nm sv vs ma mc Mh)(f:nk<=95000):au 93 #[aC pb] w (nS (N+1) s w):=by
 obtain⟨k,h,j,d,_⟩:=a.heap.box;obtain⟨_,b,c,_,_,g⟩:=PL.cells d;exact FA pb N s sv w g b c λl e=>(a.later e).read f (i:=0) (by simp) (by simp)
theorem cU.mails(a:cU base pb name room (N+1) s ms xs nk M w ws nm sv vs ma mc Mh)(n:nk<=95000)(u:ms.length<=1000):au 94 #[aC pb] w (FT (N+1) ms w):=by
 obtain⟨y,v,x,k,_⟩:=a.heap.box;obtain⟨_,_,_,e,_,o⟩:=PL.cells k;have m:=a.len;refine ID pb N ms vs vs.length ma mc w rfl m.symm (by omega) o e (λt b i r c=>?_) (λt b i r z c p=>?_)
 ·obtain⟨j,q,f,d,g,h⟩:=a.mail.word c;exact⟨j,q,f,d,(az b _ _ d).trans g,(az b _ _ d).trans h⟩
 ·have l:=(aZ.1 c).1;exact(a.later b).read n (i:=i+1) (by rw[fJ,dy,dM l];exact c) (by rw[fJ,dy,dM (by omega)];exact p)
end
theorem xJ(ty:TypeId)(f:w.ownsRow base 184 2 v n xs)(z:fy w ps xa)(i:ps.length=m)(F:n+m<=200000)(u:base<=w.heap.size):∃a d w',(Builtin.append_ #[187,187] ty #[v,af xa m xc]).run Tryz.prog w=.ok (af a (n+m) d) w'/\w'.ownsRow base 184 2 (af a (n+m) d) (n+m) (xs++bw ps)/\w.grownBy w' v.ownBlock/\((Value.slice a (n+m) d).ownBlock=v.ownBlock\/(Value.slice a (n+m) d).ownBlock=some w.heap.size):=by
 obtain⟨j,hit,A,B,C⟩:=bR lT;have p:∀{w':ah}{g:ax}{k:Nat}{E:dG},w'.ownsRow base 184 2 g k E->∃l c,g=af l k c:=λe=>by
  rcases e.2 with⟨rfl,rfl⟩|⟨q,cap,o,rfl,_⟩
  ·exact⟨none,0,rfl⟩
  ·exact⟨_,cap,rfl⟩
 rcases z with rfl|⟨ad,rfl,x⟩
 ·obtain rfl:m=0:=i.symm;obtain⟨b,cap,D,y⟩:∃b cap,v=af b n cap/\n<=cap:=by
   rcases f.2 with⟨rfl,rfl⟩|⟨q,cap,o,rfl,_,_,e,_⟩
   ·exact⟨none,0,rfl,ay _⟩
   ·exact⟨_,cap,rfl,e⟩
  subst D;exact⟨b,cap,w,oG w _ _ ty _ _ j underlying187 underlying187 hit b xa n cap xc y,by simpa [bw]using f,gR _ _,ak rfl⟩
 ·obtain⟨g,w',r,h,s,_,t⟩:=run_append_own_at (P:=Tryz.prog) w base 187 ty 184 j _ 2 16 underlying187 hit A B C rfl (by decide) _ n xs f ad m xc (bw ps) (by rw[cO,i]) x (rH _) (by unfold maxLen;omega) (by omega) u;obtain⟨a,d,rfl⟩:=p h;exact⟨a,d,w',r,h,s,t⟩
theorem xg{d:Array Oper}{o:Oper}{a:Act}{E:Prop}(k:o.guard=none)(s x:Operand)(p:o.op=.call {callee:=.builtin .append,args:= #[s,x],argTypes:= #[187,187]})(t:a.eval s=v)(z:a.eval x=af xa m xc)(q:w.ownsRow base 184 2 v n xs)(u:fy w ps xa)(l:ps.length=m)(h:n+m<=200000)(j:base<=w.heap.size)(i:∀b c w',w'.ownsRow base 184 2 (af b (n+m) c) (n+m) (xs++bw ps)->w.grownBy w' v.ownBlock->((Value.slice b (n+m) c).ownBlock=v.ownBlock\/(Value.slice b (n+m) c).ownBlock=some w.heap.size)->K (a.put o.dst (af b (n+m) c)) w'):if Region.wanted o (yielded d a.tmps)=true then Oper.wp Tryz.prog o a w K Q else E:=by
 have y:Region.wanted o (yielded d a.tmps)=true:=by simp[Region.wanted,k]
 rw[if_pos y];obtain⟨b,c,w',r,e,f,g⟩:=xJ (xc:=xc) o.type q u l h j;unfold Oper.wp execOp;simp only[p,resolve,invoke,builtin,jD,jE,jC,jz,bz,dz,t,z,r];exact i _ _ _ e f g
theorem dY.turn{name:aq}{g h:Wd}{mv:ax}{M:aU}(j:dY base (PL d name g mv) room ws nm M w)(k:ci (λb=>b=d) w w')(p:∀tv lv mp:ax,w.heap[d]?=some (.cells #[ag name,ae room,tv,lv,mp,ae g.1,ae g.2,mv] 195)->w'.heap[d]?=some (.cells #[ag name,ae room,tv,lv,mp,ae h.1,ae h.2,u] 195)):dY base (PL d name h u) room ws nm M w':=by
 obtain⟨tv,lv,mp,e,i,f,l,m,n,o⟩:=j;refine⟨tv,lv,mp,⟨⟨rfl,am rfl⟩,p tv lv mp e.2⟩,ey i k (λb a c=>?_),f.kept k (λb a c=>?_) (λb a c=>?_),l,m,n,o⟩
 ·subst c;exact ol i e (by decide) a
 ·subst c;exact ol f.1 e (by decide) a
 ·subst c;exact uZ f e a
theorem ku.words(k:ku Mh ma vs d w):fy w vs ma:=by
 rcases k with⟨_,b,_⟩|⟨c,e,l,h,_,i,m,_,n,j⟩
 ·exact ak b
 ·refine am ⟨⟨c,e,none⟩,h,λg p f=>?_⟩;have o:=(aZ.1 f).1;have a:=f;rw[<-j,jx]at a;split at a
  ·rw[jw,nD]at a;have b:(⟨c,e,none⟩:Addr).add g=⟨c,e+g,none⟩:=by unfold Addr.add;split<;>simp[*]
   rw[b];simp[World.cell?,i,a]
  ·cases a
theorem kL.tidied{a:List (Tm N)}(q:kL N ws nm room e a):kL N (kA ws N e).2.1 nm room (kA ws N e).1 a/\((kA ws N e).2.1.length:Int)=(a.map (sz N)).sum/\(kA ws N e).1.length=e.length:=by
 obtain⟨k,w,l,z,A,x,y,m⟩:=q;obtain⟨n,o,p⟩:=Fh m k w;have i:∀b∈a,aJ ⟨N,b⟩:=λb f=>pH (l b f).1;have j:=oZ (λg ws nm d=>ij N g ws nm d) a [] nm i;have t:=Cs N a [] nm;have r:=wl (λg ws nm d=>Ar N g ws nm d) a [] nm i;have h:=ik (bu N) a [] nm;rw[p]at j;rw[n,o];simp only[eU]at t;refine⟨⟨⟨h,λv C b u f=>?_⟩,r.1,l,by omega,by omega,x,y,m⟩,by omega,by rw[h,k.1]⟩;obtain⟨B,c,s⟩:=j v b f;rw[u]at c;injection c with c;rw[c];exact s
theorem nA(w:ah){q:Nat}(b:g≠q)(o:Nat)(v:ax)(j:Nat):(w.setCell ⟨q,o,none⟩ v).cell? ⟨g,j,none⟩=w.cell? ⟨g,j,none⟩:=by
 refine bL ?_ j;have c:¬q=g:=λa=>b a.symm;simp[World.setCell,bQ,c]
def wG(g L:Nat):aw:=if L=0 then some ⟨g,0,none⟩else some ⟨g,2,none⟩
def Dx(w:ah)(a:Nat)(b:Wd)(mv:ax):ah:=((w.setCell ⟨a,5,none⟩ (ae b.1)).setCell ⟨a,5+1,none⟩ (ae b.2)).setCell ⟨a,7,none⟩ mv
theorem Jr(d:Nat)(f:Wd)(vs:List Wd)(L:Nat)(ma:aw)(t:Nat)(w:ah)(Fin:Nat->Wd->ah->bE)(Q:Hid (vs.length=L))(T:L<=1000)(q:Hid (∀w1,ap w w1->ai w1 d 5 (ae f.1)/\ai w1 d (5+1) (ae f.2)/\ai w1 d 7 (af ma L t)))(M:Hid (∀w1,ap w w1->fy w1 vs ma))(G:Hid (∀w1,ap w w1->∀(a:aw)(c:Nat),w1.ownsRow w.heap.size 184 2 (af a (1+L) c) (1+L) (bw (f::vs))->au 232 #[.pointer (some ⟨d,1,none⟩),af a (1+L) c] w1 λe w'=>∃(g:Nat)(h:Wd),e=.returned (.tuple #[af (some ⟨g,0,none⟩) (1+L) (1+L),ae 0])/\Hid ((ai w' g 0 (ae h.1)/\ai w' g 1 (ae h.2))/\g≠d/\(∃B C D,ai w' d 5 B/\ai w' d (5+1) C/\ai w' d 7 D)/\(∀j,w'.frozen? ⟨d,j,none⟩=false)/\Fin g h w1 w'))):au 213 #[aC d] w λe w'=>e=.returned (.tuple #[])/\∃(g:Nat)(h:Wd)(w1 w2:ah),w'=(Dx w2 d h (af (wG g L) L L)).drew/\Hid (ap w w1/\Fin g h w1 w2):=by
 obtain⟨N,O,P⟩:=q.out w (aE _ _);have H:Hid (ap w w.drew):=(aE _ _).drew;have k:Hid (ap w (w.alloc (.cells #[ae f.1,ae f.2] 184)).drew/\(w.alloc (.cells #[ae f.1,ae f.2] 184)).drew.ownsRow w.heap.size 184 2 (af (some ⟨w.heap.size,0,none⟩) 1 1) 1 (qF f)):=by
  refine⟨by go_grown,rfl,am ⟨w.heap.size,1, #[ae f.1,ae f.2],rfl,ay _,sw w _ rfl,ay _,by unfold maxLen;omega,rfl,rfl⟩⟩
 go_enter func213,ntmps213;go_wp2_with fail
 go_region_held3 (λw'=>w'.cell? ⟨d,5,none⟩=some (ae f.1)/\w'.cell? ⟨d,5+1,none⟩=some (ae f.2)/\w'.cell? ⟨d,7,none⟩=some (af ma L t)) (first|(go_keep;done)|with_reducible exact q _ H|with_reducible exact q _ k.1|exact q _ r)
  ((refine xg rfl _ _ rfl (base:=w.heap.size) (v:=af (some ⟨w.heap.size,0,none⟩) 1 1) (n:=1) (m:=L) (xc:=t) (xs:=qF f) (ps:=vs) (xa:=ma) (by simp[Act.eval]) (by simp[Act.eval]) k.2 (M _ k.1) Q (by omega) (by have:=k.1.size;exact this) ?_;intro u x w2 A o R;have r:Hid (ap w w2):=(k.1.trans ⟨o.os,o.tape,o.output,o.size,λb S=>o.block b (aY S k.1.size) (λe=>by simp[Value.ownBlock]at e;omega)⟩);have K:=av (show w2.ownsRow w.heap.size 184 2 (af u (1+L) x) (1+L) (bw (f::vs))from A);clear A o R))
 have F:=av (G w2 r u x K);clear N O P;go_wp2_with fail;refine F.mono ?_;rintro e i ⟨g,h,rfl,E⟩;obtain⟨⟨y,z⟩,l,⟨B,C,D,d5,d6,d7⟩,U,s⟩:=E;replace s:=av s;have W:(0:Int)<1+(L:Int):=by omega
 have X:(1:Int)<=1+(L:Int):=by omega
 have V:d≠g:=λe=>l e.symm;have I:Hid (∀a b:ax,((i.setCell ⟨d,5,none⟩ a).setCell ⟨d,5+1,none⟩ b).cell? ⟨g,0,none⟩=some (ae h.1)/\((i.setCell ⟨d,5,none⟩ a).setCell ⟨d,5+1,none⟩ b).cell? ⟨g,1,none⟩=some (ae h.2)):=λa b=>by
  have p:∀j,((i.setCell ⟨d,5,none⟩ a).setCell ⟨d,5+1,none⟩ b).cell? ⟨g,j,none⟩=i.cell? ⟨g,j,none⟩:=λj=>(nA _ l _ _ j).trans (nA _ l _ _ j);exact⟨(p _).trans y,(p _).trans z⟩
 have J:Hid (∀a b c:ax,(((i.setCell ⟨d,5,none⟩ a).setCell ⟨d,5+1,none⟩ b).setCell ⟨d,7,none⟩ c).cell? ⟨g,0,none⟩=some (ae h.1)/\(((i.setCell ⟨d,5,none⟩ a).setCell ⟨d,5+1,none⟩ b).setCell ⟨d,7,none⟩ c).cell? ⟨g,1,none⟩=some (ae h.2)):=λa b c=>by
  have p:∀j,(((i.setCell ⟨d,5,none⟩ a).setCell ⟨d,5+1,none⟩ b).setCell ⟨d,7,none⟩ c).cell? ⟨g,j,none⟩=i.cell? ⟨g,j,none⟩:=λj=>(nA _ l _ _ j).trans ((nA _ l _ _ j).trans (nA _ l _ _ j));exact⟨(p _).trans y,(p _).trans z⟩
 go_wp2_with fail;go_region_held3 (λw'=>w'.cell? ⟨g,0,none⟩=some (ae h.1)/\w'.cell? ⟨g,1,none⟩=some (ae h.2)) (first|(go_keep;done)|exact I _ _|exact J _ _ _) (fail);exact eE (v:=.tuple #[]) (by simp[results]) rfl ⟨rfl,g,h,w2,i,rfl,r,s⟩
theorem kL.front{t:List Wd}{f g:List (Tm N)}(m:kL N ws nm room (e++t) (f++g))(n:e.length=f.length):kL N ws nm room e f:=by
 obtain⟨i,d,j,k,p,q,r,s⟩:=m;refine⟨⟨n,λo u b h c=>i.2 o u b ?_ ?_⟩,?_,λb c=>j b (List.mem_append_left _ c),?_,p,q,r,s⟩
 ·rw[dM (aZ.1 h).1];exact h
 ·rw[dM (aZ.1 c).1];exact c
 ·rw[lB]at d;exact(fK.1 d).1
 ·rw[ft,nM]at k;have w:(0:Int)<=(g.map (sz N)).sum:=by
   clear i d k
   induction g with
   | nil=>simp
   | cons b l ih=>
    have x:=ih λv a=>j v (by simp only[dt,co]at a ⊢;rcases a with a|a<;>simp[a]);have y:=(fH N b).1;simp only[bz,di];omega
  omega
theorem GK{N:Nat}:(l:List (Tm N))->(l.map λy=>1+sz N y).sum=l.length+(l.map (sz N)).sum
 | []=>by simp
 | y::l=>by
  have a:=GK l;simp only[bz,di,bt,a];omega
theorem yI{N:Nat}:(l:List (Tm N))->(∀y∈l,aJ ⟨N,y⟩)->((l.flatMap λy=>aF N y).length:Int)<=(l.map λy=>1+sz N y).sum
 | [],_=>by simp
 | y::l,h=>by
  have c:=yI l λb a=>h b (by simp[a]);have d:=wM N y (h y (by simp));simp only[bK,bm,bz,di];omega
theorem kL.roots{a:List (Tm N)}(h:kL N ws nm room e a)(i:e.length<=1000):FU ws nm N e a:=by
 obtain⟨f,m,g,n,o,p,q,r⟩:=h;have d:∀b∈a,aJ ⟨N,b⟩:=λb c=>pH (g b c).1;have j:=GK a;have k:=yI a d;have l:=f.1;exact⟨f,d,λb c=>(g b c).2,by omega,by omega,i⟩
theorem E0(e:w.ownsRow base 184 2 (af a n c) n (bw vs))(s:0<n):fh w vs a/\∀b o,a=some ⟨b,o,none⟩->b<w.heap.size:=by
 rcases e.2 with⟨d,q⟩|⟨h,cap,p,d,t,i,_⟩
 ·omega
 ·injection d with f r g;subst f g;have j:=(aN.1 i).1;refine⟨am ⟨h,0,rfl,j,λl m k=>?_⟩,λb o d=>?_⟩
  ·have:=ju e l m k;rw[cw];exact this
  ·injection d with d;injection d with d;omega
section
variable {base pb:Nat} {name:aq} {room:Int} {N:Nat} {s:Tm (N+1)} {ms:List (Tm (N+1))} {xs:List (Wd×Tm (N+1))} {nk:Nat} {M:aU} {w:ah} {ws:List Wd} {nm:bj} {sv:Wd} {vs:List Wd} {ma:aw} {mc:Nat} {Mh:aU}
theorem cU.front(a:cU base pb name room (N+1) s ms xs nk M w ws nm sv vs ma mc Mh):kL (N+1) ws nm room (sv::vs) (s::ms):=
 kL.front a.has (by simp[a.len])
theorem FJ{w:ah}{pb:Nat}{c0 a b c d e f g:ax}{t:TypeId}(sv:Wd)(mv:ax)(h:w.heap[pb]?=some (.cells #[c0,a,b,c,d,e,f,g] t)):(Dx w pb sv mv).heap[pb]?=some (.cells #[c0,a,b,c,d,ae sv.1,ae sv.2,mv] t):=by
 unfold Dx World.setCell;simp[bQ,h]
theorem JD(w:ah)(pb:Nat)(sv:Wd)(mv:ax):ci (λb=>b=pb) w (Dx w pb sv mv).drew:=by
 have c:=bH w pb 5 (ae sv.1);have d:=bH (w.setCell ⟨pb,5,none⟩ (ae sv.1)) pb (5+1) (ae sv.2);have e:=bH ((w.setCell ⟨pb,5,none⟩ (ae sv.1)).setCell ⟨pb,5+1,none⟩ (ae sv.2)) pb 7 mv;have a:=(c.trans d λ_ _ k=>k).trans e λ_ _ k=>k;exact⟨a.os,a.tape,a.output,a.size,a.block⟩
def ME(base pb:Nat)(name:aq)(room:Int)(N:Nat)(s:Tm N)(ms:List (Tm N))(nk:Nat)(M:aU)(nm:bj)(w:ah)(e:Ending)(w':ah):Prop:=
 e=.returned (.tuple #[])/\∃c g a f d,cU base pb name room N s ms [] nk (λb=>M b\/w.heap.size<=b) w' c nm g a f a.length d/\Hid (ci M w w'/\(c.length:Int)=((s::ms).map (sz N)).sum)
theorem cU.tidy(e:cU base pb name room (N+1) s ms xs nk M w ws nm sv vs ma mc Mh)(aH:nk<=95000)(aA:ms.length<=999)(aB:base<=w.heap.size):au 213 #[aC pb] w (ME base pb name room (N+1) s ms nk M nm w):=by
 have C:=e.front;have aF:=e.len;have ah:=e.names;have al:=C.roots (by simp only[bt];omega);obtain⟨L,ao,v⟩:=C.tidied;obtain⟨q,j,B⟩:∃q j,(kA ws (N+1) (sv::vs)).1=q::j:=by
  cases u:(kA ws (N+1) (sv::vs)).1 with
  | nil=>rw[u]at v;simp at v
  | cons n l=>exact⟨n,l,rfl⟩
 rw[B]at L v;simp only[bt]at v;have I:j.length=vs.length:=by omega
 obtain⟨_,_,_,_,aJ,_,aK,_⟩:=C;refine(Jr pb sv vs vs.length ma mc w (λa m g r=>m=q/\zE base (PL pb name sv (af ma vs.length mc)) room (kA ws (N+1) (sv::vs)) nm Mh a g r) rfl (by omega) ?_ ?_ ?_).mono ?_
 ·intro g f;obtain⟨R,P,aq,z,_⟩:=(e.later f).heap.box;obtain⟨_,U,V,W,_⟩:=PL.cells z;exact⟨U,V,W⟩
 ·intro g f;exact(e.later f).mail.words
 ·intro g f n c ai;have an:=f.size;obtain⟨ad,ag⟩:=E0 ai (by omega);have ae:(sv::vs).length=1+vs.length:=by simp only[bt];omega
  have t:=Ap (N+1) (s::ms) (sv::vs) n c base (PL pb name sv (af ma vs.length mc)) room ws nm Mh g (e.later f).heap al ad ag (by omega) (by omega) (by omega);rw[ae]at t;refine t.mono ?_;rintro d r ⟨a,rfl,G⟩;have T:=G.out;obtain⟨E,Q,F,av,aw,x⟩:=T;obtain⟨R,P,aq,z,_⟩:=E.box;obtain⟨_,d5,d6,d7,d8,d9⟩:=PL.cells z;obtain⟨ax,ap,ar,A,_⟩:=(e.later f).heap.box;have aj:pb<g.heap.size:=(PL.cells A).2.2.2.2.2;refine⟨a,q,rfl,⟨?_,by omega,⟨_,_,_,d5,d6,d7⟩,d8,rfl,G⟩⟩;rw[B]at F;rcases F with d|⟨b,o,d,aD,aa⟩
  ·cases d
  ·injection d with d;injection d with k p;subst k p;have:=aa 0 q rfl;simpa using this
 ·rintro d aL ⟨rfl,a,m,g,r,rfl,S⟩;obtain⟨f,rfl,E,Q,F,av,aw,len,x⟩:=S;have an:=f.size;obtain⟨ax,ap,ar,A,_⟩:=(e.later f).heap.box;have aj:pb<g.heap.size:=(PL.cells A).2.2.2.2.2;have Y:Mh pb:=by
   obtain⟨_,_,_,_,_,_,i,_⟩:=e.heap;exact i
  have D:=JD r pb m (af (wG a vs.length) vs.length vs.length);rw[B]at x;have ab:¬a=pb:=by omega
  refine⟨rfl,(kA ws (N+1) (sv::vs)).2.1,m,j,wG a vs.length,λb=>(Mh b\/g.heap.size<=b)/\b≠a,⟨?_,?_,?_,by omega,ah,?_,?_⟩,?_⟩
  ·rw[I];exact E.turn D λR P mp t=>FJ m _ t
  ·rw[I];rcases x.2 with⟨d,ay⟩|⟨az,cap,y,d,_,u,aE,aG,aI,O⟩
   ·cases d
   ·injection d with k p X;injection k with k;injection k with k;subst k X;have J:(Dx r pb m (af (wG a vs.length) vs.length vs.length)).drew.heap[a]?=some (.cells y 184 (0,0)):=(D.block a (aN.1 u).1 ab).trans u;have K:=x.1;rw[cO]at K;simp only[bt]at K;refine am ?_;by_cases H:vs.length=0
    ·refine⟨a,0,y,by simp[wG,H],by simp,J,by omega,by unfold maxLen;omega,by omega,?_⟩;have:j=[]:=List.length_eq_zero_iff.1 (by omega);simp[this,bw]
    ·refine⟨a,2,y,by simp[wG,H],by simp,J,by omega,by omega,by omega,?_⟩;have d:len*2=2+j.length*2:=by omega
     rw[d]at O;have p:=congrArg (List.drop 2) O;rw[List.drop_take,show 2+j.length*2-2=j.length*2 from by omega]at p;exact p
  ·simpa using L
  ·intro b Z;rcases Z.1 with i|i
   ·exact ak (e.inM b i)
   ·exact am (by omega)
  ·intro n h;have:n.block=a:=by
    unfold wG at h;split at h
    ·injection h with h;rw[<-h]
    ·injection h with h;rw[<-h]
   exact am (by omega)
  ·refine⟨?_,ao⟩;refine ci.trans ((bA f M).trans (Q.mono e.inM) λ_ _ i=>i) D λb _ i=>?_;rw[i];exact e.inM pb Y
end
def Up(n:Nat)(w0 w1:ah):Prop:=w0.heap.size<=w1.heap.size/\∀b,n<=b->b<n+3->b<w0.heap.size->w1.heap[b]?=w0.heap[b]?
theorem wX(w:ah){q:Nat}(c:b≠q)(o:Nat)(v:ax):(w.setCell ⟨q,o,none⟩ v).heap[b]?=w.heap[b]? :=by
 have d:¬q=b:=λa=>c a.symm;simp[World.setCell,bQ,d]
def wQ(w:ah)(g:Nat)(a b:ax):ah:=(w.setCell ⟨g,0,none⟩ a).setCell ⟨g,0+1,none⟩ b
theorem l9(a:b≠g)(x y:ax):(wQ w g x y).heap[b]?=w.heap[b]? :=(wX _ a _ _).trans (wX _ a _ _)
theorem Ja(w:ah)(g:Nat)(x y:ax):(wQ w g x y).heap.size=w.heap.size:=by simp[wQ,World.setCell]
theorem CW(aj:Nat)(k i:Int)(t:aq)(h:aw)(l j:Nat)(w:ah)(O:Wd->Int->ah->bE)(al:ah->bE)(aJ:Wd->Int->ah->bE)(aL:Hid (∀w0,ap w w0->au 123 #[.pointer (some ⟨aj,1,none⟩),.agg #[ae k,ae i,ag t,af h l j]] w0 λe w1=>∃(v:Wd)(g:Int),e=.returned (.tuple #[.agg #[ae v.1,ae v.2],ae g])/\Hid (Up w.heap.size w0 w1/\O v g w0 w1)))(aN:Hid (∀v1 w0 w1 w2,ap w w0->O v1 6 w0 w1->ci (λb=>w.heap.size<=b/\b<w0.heap.size) w1 w2->w.heap.size+3<=w2.heap.size->au 213 #[aC aj] w2 λe d=>e=.returned (.tuple #[])/\Hid (Up w.heap.size w2 d/\al w2 d)))(aM:Hid (∀w2 d N,al w2 d->w.heap.size+3<=w2.heap.size->ap d N->au 123 #[.pointer (some ⟨aj,1,none⟩),.agg #[ae k,ae i,ag t,af h l j]] N λe w4=>∃(v:Wd)(g:Int),e=.returned (.tuple #[.agg #[ae v.1,ae v.2],ae g])/\Hid (Up w.heap.size N w4/\aJ v g N w4))):au 185 #[aC aj,.agg #[ae k,ae i,ag t,af h l j]] w λe w'=>∃(v:Wd)(g:Int),e=.returned (.tuple #[.agg #[ae v.1,ae v.2],ae g])/\ ((g≠6/\∃w0 w1,ap w w0/\O v g w0 w1/\ci (λb=>w.heap.size<=b/\b<w0.heap.size) w1 w')\/∃v1 w0 w1 w2 d N w4,ap w w0/\O v1 6 w0 w1/\ci (λb=>w.heap.size<=b/\b<w0.heap.size) w1 w2/\w.heap.size+3<=w2.heap.size/\al w2 d/\ap d N/\aJ v g N w4/\ci (λb=>b=w.heap.size+1) w4 w'):=by
 go_enter func185,ntmps185;go_wp2_with fail;have R:=av (kY w (.cells #[ae k,ae i,ag t,af h l j] 54) (.cells #[ae 0,ae 0] 184));have m:Hid (ap w ((w.alloc (.cells #[ae k,ae i,ag t,af h l j] 54)).alloc (.cells #[ae 0,ae 0] 184))/\((w.alloc (.cells #[ae k,ae i,ag t,af h l j] 54)).alloc (.cells #[ae 0,ae 0] 184)).heap.size=w.heap.size+1+1):=⟨by go_grown,by simp⟩;generalize aO:(w.alloc _).alloc _=c;rw[aO]at R m;clear aO;have F:Hid (∀w':ah,w'.heap[w.heap.size]?=c.heap[w.heap.size]? ->ai w' w.heap.size 0 (ae k)/\ai w' w.heap.size 1 (ae i)/\ai w' w.heap.size 2 (ag t)/\ai w' w.heap.size 3 (af h l j)):=λw' T=>by
  have f:=T.trans R.1;exact⟨aA f 0,aA f 1,aA f 2,aA f 3⟩
 obtain⟨aU,aV,aW,aY⟩:=F.out c rfl;have u:Hid (ap c c.drew/\c.drew.heap[w.heap.size]?=c.heap[w.heap.size]?):=⟨(aE _ _).drew,rfl⟩;have Q:Hid (ap c (c.alloc (.cells #[ae 0,ae 0] 184)).drew/\(c.alloc (.cells #[ae 0,ae 0] 184)).drew.heap[w.heap.size]?=c.heap[w.heap.size]?):=by
  have T:ap c (c.alloc (.cells #[ae 0,ae 0] 184)).drew:=by go_grown
  exact⟨T,T.block _ (by have:=m.2;omega)⟩
 have ar:Hid ((c.alloc (.cells #[ae 0,ae 0] 184)).drew.heap[c.heap.size]?=some (.cells #[ae 0,ae 0] 184)/\(c.alloc (.cells #[ae 0,ae 0] 184)).drew.heap.size=c.heap.size+1):=⟨sw c _ rfl,by simp⟩
 go_region_held3 (λw'=>w'.cell? ⟨w.heap.size,0,none⟩=some (ae k)/\w'.cell? ⟨w.heap.size,1,none⟩=some (ae i)/\w'.cell? ⟨w.heap.size,2,none⟩=some (ag t)/\w'.cell? ⟨w.heap.size,3,none⟩=some (af h l j)) (first|(go_keep;done)|with_reducible exact F _ u.2|with_reducible exact F _ Q.2|exact F _ P|exact F _ (ab _)|exact F _ (an _ _)|exact F _ (aK _ _ _))
  ((first
   | (go_at_call 123;refine(aL _ (m.1.trans (u.1.mono m.1.size))).mono ?_;rintro e w1 ⟨v,g,rfl,p⟩;have P:Hid (w1.heap[w.heap.size]?=c.heap[w.heap.size]?):=(p.1.2 _ (ay _) (by omega) (by have f:=u.1.size;have s:=m.2;omega)).trans u.2;have ab:Hid (∀o:Obj,(w1.alloc o).heap[w.heap.size]?=c.heap[w.heap.size]?):=λo=>(gY w1 o (by have f:=p.1.1;have s:=u.1.size;have ad:=m.2;omega)).trans P;have aK:Hid (∀(o:Obj)(n b:ax),(wQ (w1.alloc o) w1.heap.size n b).heap[w.heap.size]?=c.heap[w.heap.size]?):=λo n b=>(l9 (by have f:=p.1.1;have s:=u.1.size;have ad:=m.2;omega) n b).trans (ab o))
   | (go_at_call 123;refine(aL _ (m.1.trans (Q.1.mono m.1.size))).mono ?_;rintro e w1 ⟨v,g,rfl,p⟩;have P:Hid (w1.heap[w.heap.size]?=c.heap[w.heap.size]?):=(p.1.2 _ (ay _) (by omega) (by have f:=Q.1.size;have s:=m.2;omega)).trans Q.2;have X:Hid (w1.heap[c.heap.size]?=some (.cells #[ae 0,ae 0] 184)):=(p.1.2 c.heap.size (by have s:=m.2;omega) (by have s:=m.2;omega) (by have s:=ar.2;omega)).trans ar.1;have aR:ai w1 c.heap.size 0 (ae 0):=aA X 0;have aS:ai w1 c.heap.size 1 (ae 0):=aA X 1;have aT:=λz=>dq X z;have an:Hid (∀n b:ax,(wQ w1 c.heap.size n b).heap[w.heap.size]?=c.heap[w.heap.size]?):=λn b=>(l9 (by have ad:=m.2;omega) n b).trans P)))
 ·have V:Hid (∃w0 r w2,(r=w1.heap.size/\w2=w1.alloc (.cells #[ae v.1,ae v.2] 184))/\ap w w0/\O v g w0 w1/\ci (λb=>w.heap.size<=b/\b<w0.heap.size) w1 w2/\w.heap.size+3<=w2.heap.size/\w2.heap[w.heap.size]?=some (.cells #[ae k,ae i,ag t,af h l j] 54)/\w2.heap[w.heap.size+1]?=some (.cells #[ae 0,ae 0] 184)/\w2.heap[r]?=some (.cells #[ae v.1,ae v.2] 184)/\w.heap.size+1≠r/\w.heap.size+2<=w0.heap.size):=by
    have f:=p.1.1;have s:=u.1.size;have ad:=m.2;have az:∀b,b<w1.heap.size->(w1.alloc (.cells #[ae v.1,ae v.2] 184)).heap[b]?=w1.heap[b]? :=λb aQ=>gY w1 _ aQ;refine⟨c.drew,_,_,⟨rfl,rfl⟩,m.1.trans (u.1.mono m.1.size),p.2,bA aX _,by simp only[fN];omega,(ab _).trans R.1,?_,aI _ _,by omega,by omega⟩;exact(az _ (by omega)).trans ((p.1.2 _ (by omega) (by omega) (by omega)).trans ((u.1.block _ (by omega)).trans R.2))
  obtain⟨w0,r,w2,⟨S,J⟩,a⟩:=V.out;rw[<-S,<-J];replace a:=av a;clear S J V ab aK P p;have aG:ai w2 r 0 (ae v.1):=aA a.2.2.2.2.2.2.1 0;have aH:ai w2 r 1 (ae v.2):=aA a.2.2.2.2.2.2.1 1;have A:w2.cell? ⟨w.heap.size+1,0,none⟩=some (ae 0):=aA a.2.2.2.2.2.1 0;have B:w2.cell? ⟨w.heap.size+1,1,none⟩=some (ae 0):=aA a.2.2.2.2.2.1 1;have aa:=λz=>dq a.2.2.2.2.2.1 z;by_cases K:g=6;rotate_left
  ·have aP:¬(6:Int)=g:=λe=>K e.symm;go_wp2_with fail;refine aB (v:=.tuple #[.agg #[ae v.1,ae v.2],ae g]) (by simp[results,results185,go_sem,A,B]) rfl ?_;obtain⟨G,H,I,_,_,_,_,_,Y⟩:=a.out;refine⟨v,g,rfl,ak ⟨K,w0,w1,G,H,ci.trans I ((bH w2 (w.heap.size+1) 0 _).trans (bH _ (w.heap.size+1) _ _) λ_ _ e=>e) λb _ e=>?_⟩⟩;subst e;omega
  ·subst K;have W:=av (aN v w0 w1 w2 a.1 a.2.1 a.2.2.1 a.2.2.2.1);go_wp2_with fail;refine W.mono ?_;rintro e d ⟨rfl,C⟩;clear aG aH A B aa W;have q:Hid (d.heap[w.heap.size]?=some (.cells #[ae k,ae i,ag t,af h l j] 54)/\d.heap[w.heap.size+1]?=some (.cells #[ae 0,ae 0] 184)/\w.heap.size+3<=d.heap.size):=by
    have aF:=a.2.2.2.1;have L:=C.1;exact⟨(L.2 _ (by omega) (by omega) (by omega)).trans a.2.2.2.2.1,(L.2 _ (by omega) (by omega) (by omega)).trans a.2.2.2.2.2.1,aD aF L.1⟩
   have x:Hid (ap d d.drew):=(aE _ _).drew;have y:Hid (∀w':ah,w'.heap[w.heap.size]?=some (.cells #[ae k,ae i,ag t,af h l j] 54)->ai w' w.heap.size 0 (ae k)/\ai w' w.heap.size 1 (ae i)/\ai w' w.heap.size 2 (ag t)/\ai w' w.heap.size 3 (af h l j)):=λw' f=>⟨aA f 0,aA f 1,aA f 2,aA f 3⟩;obtain⟨t0,t1,t2,t3⟩:=y.out d q.1;go_wp2_with fail
   go_region_held3 (λw'=>w'.cell? ⟨w.heap.size,0,none⟩=some (ae k)/\w'.cell? ⟨w.heap.size,1,none⟩=some (ae i)/\w'.cell? ⟨w.heap.size,2,none⟩=some (ag t)/\w'.cell? ⟨w.heap.size,3,none⟩=some (af h l j)) (first|(go_keep;done)|exact y _ q.1|exact y _ U|exact y _ (ao _ _))
    ((go_at_call 123;refine(aM w2 d _ C.2 a.2.2.2.1 x).mono ?_;rintro e w4 ⟨M,Z,rfl,D⟩;have U:Hid (w4.heap[w.heap.size]?=some (.cells #[ae k,ae i,ag t,af h l j] 54)):=(D.1.2 _ (ay _) (by omega) (by have f:=q.2.2;have s:=x.size;omega)).trans q.1;have E:Hid (w4.heap[w.heap.size+1]?=some (.cells #[ae 0,ae 0] 184)):=(D.1.2 (w.heap.size+1) (by omega) (by omega) (by have f:=q.2.2;have s:=x.size;omega)).trans q.2.1;have A:w4.cell? ⟨w.heap.size+1,0,none⟩=some (ae 0):=aA E 0;have B:w4.cell? ⟨w.heap.size+1,1,none⟩=some (ae 0):=aA E 1;have aa:=λz=>dq E z;have ao:Hid (∀n b:ax,(wQ w4 (w.heap.size+1) n b).heap[w.heap.size]?=some (.cells #[ae k,ae i,ag t,af h l j] 54)):=λn b=>(l9 (by omega) n b).trans U))
   go_wp2_with fail;refine aB (v:=.tuple #[.agg #[ae M.1,ae M.2],ae Z]) (by simp[results,results185,go_sem,A,B]) rfl ?_;obtain⟨G,H,I,Y,_⟩:=a.out;exact⟨M,Z,rfl,am ⟨v,w0,w1,w2,d,d.drew,w4,G,H,I,Y,C.2,x,D.2,(bH w4 (w.heap.size+1) 0 _).trans (bH _ (w.heap.size+1) _ _) λ_ _ e=>e⟩⟩
 ·have V:Hid (∃w0 r w2,(r=c.heap.size/\w2=wQ w1 c.heap.size (ae v.1) (ae v.2))/\ap w w0/\O v g w0 w1/\ci (λb=>w.heap.size<=b/\b<w0.heap.size) w1 w2/\w.heap.size+3<=w2.heap.size/\w2.heap[w.heap.size]?=some (.cells #[ae k,ae i,ag t,af h l j] 54)/\w2.heap[w.heap.size+1]?=some (.cells #[ae 0,ae 0] 184)/\w2.heap[r]?=some (.cells #[ae v.1,ae v.2] 184)/\w.heap.size+1≠r/\w.heap.size+2<=w0.heap.size):=by
    have f:=p.1.1;have s:=ar.2;have ad:=m.2;have az:ci (λb=>w.heap.size<=b/\b<(c.alloc (.cells #[ae 0,ae 0] 184)).drew.heap.size) w1 (wQ w1 c.heap.size (ae v.1) (ae v.2)):=((bH w1 c.heap.size 0 _).trans (bH _ c.heap.size _ _) λ_ _ e=>e).mono λb e=>by subst e;omega
    refine⟨_,_,_,⟨rfl,rfl⟩,m.1.trans (Q.1.mono m.1.size),p.2,az,by rw[Ja];omega,(an _ _).trans R.1,?_,?_,by omega,by omega⟩
    ·exact(l9 (by omega) _ _).trans ((p.1.2 _ (by omega) (by omega) (by omega)).trans ((Q.1.block _ (by omega)).trans R.2))
    ·have T:=X.out;unfold wQ World.setCell;simp[bQ,T]
  obtain⟨w0,r,w2,⟨S,J⟩,a⟩:=V.out;unfold wQ at J;rw[<-S];rw[<-S]at J;rw[<-J];replace a:=av a;clear S J V an P p X aR aS aT;have aG:ai w2 r 0 (ae v.1):=aA a.2.2.2.2.2.2.1 0;have aH:ai w2 r 1 (ae v.2):=aA a.2.2.2.2.2.2.1 1;have A:w2.cell? ⟨w.heap.size+1,0,none⟩=some (ae 0):=aA a.2.2.2.2.2.1 0;have B:w2.cell? ⟨w.heap.size+1,1,none⟩=some (ae 0):=aA a.2.2.2.2.2.1 1;have aa:=λz=>dq a.2.2.2.2.2.1 z;by_cases K:g=6;rotate_left
  ·have aP:¬(6:Int)=g:=λe=>K e.symm;go_wp2_with fail;refine aB (v:=.tuple #[.agg #[ae v.1,ae v.2],ae g]) (by simp[results,results185,go_sem,A,B]) rfl ?_;obtain⟨G,H,I,_,_,_,_,_,Y⟩:=a.out;refine⟨v,g,rfl,ak ⟨K,w0,w1,G,H,ci.trans I ((bH w2 (w.heap.size+1) 0 _).trans (bH _ (w.heap.size+1) _ _) λ_ _ e=>e) λb _ e=>?_⟩⟩;subst e;omega
  ·subst K;have W:=av (aN v w0 w1 w2 a.1 a.2.1 a.2.2.1 a.2.2.2.1);go_wp2_with fail;refine W.mono ?_;rintro e d ⟨rfl,C⟩;clear aG aH A B aa W;have q:Hid (d.heap[w.heap.size]?=some (.cells #[ae k,ae i,ag t,af h l j] 54)/\d.heap[w.heap.size+1]?=some (.cells #[ae 0,ae 0] 184)/\w.heap.size+3<=d.heap.size):=by
    have aF:=a.2.2.2.1;have L:=C.1;exact⟨(L.2 _ (by omega) (by omega) (by omega)).trans a.2.2.2.2.1,(L.2 _ (by omega) (by omega) (by omega)).trans a.2.2.2.2.2.1,aD aF L.1⟩
   have x:Hid (ap d d.drew):=(aE _ _).drew;have y:Hid (∀w':ah,w'.heap[w.heap.size]?=some (.cells #[ae k,ae i,ag t,af h l j] 54)->ai w' w.heap.size 0 (ae k)/\ai w' w.heap.size 1 (ae i)/\ai w' w.heap.size 2 (ag t)/\ai w' w.heap.size 3 (af h l j)):=λw' f=>⟨aA f 0,aA f 1,aA f 2,aA f 3⟩;obtain⟨t0,t1,t2,t3⟩:=y.out d q.1;go_wp2_with fail
   go_region_held3 (λw'=>w'.cell? ⟨w.heap.size,0,none⟩=some (ae k)/\w'.cell? ⟨w.heap.size,1,none⟩=some (ae i)/\w'.cell? ⟨w.heap.size,2,none⟩=some (ag t)/\w'.cell? ⟨w.heap.size,3,none⟩=some (af h l j)) (first|(go_keep;done)|exact y _ q.1|exact y _ U|exact y _ (ao _ _))
    ((go_at_call 123;refine(aM w2 d _ C.2 a.2.2.2.1 x).mono ?_;rintro e w4 ⟨M,Z,rfl,D⟩;have U:Hid (w4.heap[w.heap.size]?=some (.cells #[ae k,ae i,ag t,af h l j] 54)):=(D.1.2 _ (ay _) (by omega) (by have f:=q.2.2;have s:=x.size;omega)).trans q.1;have E:Hid (w4.heap[w.heap.size+1]?=some (.cells #[ae 0,ae 0] 184)):=(D.1.2 (w.heap.size+1) (by omega) (by omega) (by have f:=q.2.2;have s:=x.size;omega)).trans q.2.1;have A:w4.cell? ⟨w.heap.size+1,0,none⟩=some (ae 0):=aA E 0;have B:w4.cell? ⟨w.heap.size+1,1,none⟩=some (ae 0):=aA E 1;have aa:=λz=>dq E z;have ao:Hid (∀n b:ax,(wQ w4 (w.heap.size+1) n b).heap[w.heap.size]?=some (.cells #[ae k,ae i,ag t,af h l j] 54)):=λn b=>(l9 (by omega) n b).trans U))
   go_wp2_with fail;refine aB (v:=.tuple #[.agg #[ae M.1,ae M.2],ae Z]) (by simp[results,results185,go_sem,A,B]) rfl ?_;obtain⟨G,H,I,Y,_⟩:=a;exact⟨M,Z,rfl,am ⟨v,w0,w1,w2,d,d.drew,w4,G,H,I,Y,C.2,x,D.2,(bH w4 (w.heap.size+1) 0 _).trans (bH _ (w.heap.size+1) _ _) λ_ _ e=>e⟩⟩
theorem kL.lay{q:List (Tm N)}(t:kL N ws nm room e q)(x:Tm N)(j:bJ N x=0/\aV N x=true/\sz N x<=room-ws.length)(y:(bu N x ws nm).2.2.Nodup):kL N (bu N x ws nm).2.1 (bu N x ws nm).2.2 room (e++ [(bu N x ws nm).1]) (q++ [x]):=by
 obtain⟨f,A,B,K,L,C,D,M⟩:=t;have n:=pH j.1;obtain⟨p,F⟩:=nd N x ws nm;have z:=ij N x ws nm n;have m:=Ar N x ws nm n;have J:=(je N x ws nm).1;have l:∀c∈e,pS (bu N x ws nm).2.1 N c=pS ws N c/\∀E∈pS ws N c,E<ws.length:=λc i=>by
  obtain⟨g,_,o⟩:=f.mem i;exact⟨sF p N g c o,AD N g c o⟩
 refine⟨⟨by simp[f.1],λk G g d a=>?_⟩,?_,λg a=>?_,?_,by omega,C,D,y⟩
 ·rcases Nat.lt_or_ge k e.length with h|h
  ·rw[dM h]at d;rw[dM (by rw[<-f.1];exact h)]at a;exact(f.2 k G g d a).mono p F
  ·rw[fp h]at d;rw[fp (by rw[<-f.1];exact h)]at a;have s:k-e.length=0:=by
    have:=(aZ.1 d).1;simp at this;omega
   rw[<-f.1]at a;rw[s]at d a;simp only[dl,ir]at d a;rw[<-d,<-a];exact z
 ·rw[lB,nX (λc i=>(l c i).1)];simp only[bK,List.flatMap_nil,eD];refine fK.2 ⟨A,m.1,λr u b w=>?_⟩;obtain⟨c,i,v⟩:=ko.1 u;have H:=(l c i).2 r v;have I:=m.2 b w;omega
 ·rcases dt.1 a with a|a
  ·exact B g a
  ·rw[dN.1 a];exact⟨j.1,j.2.1⟩
 ·simp only[ft,nM,bz,dz,di,List.sum_nil];omega
def tF(N:Nat)(x:Tm N)(room:Int)(a:List (Tm N)):Int:=if bJ N x≠0 then bJ N x else if aV N x=false then 5 else if (a.map (sz N)).sum+sz N x<=room then 0 else 6
theorem Ff{x:Tm N}{e:List (Tm N)}(c:jl N x room ws≠6)(f:(e.map (sz N)).sum<=(ws.length:Int)):tF N x room e=jl N x room ws:=by
 unfold tF jl at*;by_cases a:bJ N x≠0
 ·simp[a]
 ·by_cases b:aV N x=false
  ·simp[a,b]
  ·rw[if_neg a,if_neg b]at c;rw[if_neg a,if_neg a,if_neg b,if_neg b];by_cases d:sz N x<=room-ws.length
   ·rw[if_pos (by omega)];simp[d]
   ·simp[d]at c
theorem Fe{x:Tm N}{a:List (Tm N)}(e:(ws.length:Int)=(a.map (sz N)).sum):tF N x room a=jl N x room ws:=by
 unfold tF jl;have b:((a.map (sz N)).sum+sz N x<=room)=(sz N x<=room-ws.length):=by rw[e];exact propext ⟨λd=>by omega,λd=>by omega⟩
 by_cases c:sz N x<=room-ws.length
 ·simp[c,b]
 ·simp[c,b]
section
variable {base pb:Nat} {name:aq} {room:Int} {N:Nat} {s:Tm (N+1)} {ms:List (Tm (N+1))} {xs:List (Wd×Tm (N+1))} {nk:Nat} {M:aU} {w:ah} {ws:List Wd} {nm:bj} {sv:Wd} {vs:List Wd} {ma:aw} {mc:Nat} {Mh:aU}
theorem cU.kept(a:cU base pb name room (N+1) s ms xs nk M w ws nm sv vs ma mc Mh){S:aU}{w1:ah}(k:ci S w w1)(g:∀b,M b->b<w.heap.size->¬S b):cU base pb name room (N+1) s ms xs nk M w1 ws nm sv vs ma mc Mh:=by
 refine⟨a.heap.kept k λb m c=>g b (a.inM b m) c,?_,a.has,a.len,a.names,a.inM,a.mailM⟩;rcases a.mail with i|⟨d,n,h,e,j,f,l⟩
 ·exact ak i
 ·have c:=(aN.1 f).1;exact am ⟨d,n,h,e,j,(k.block d c (g d (a.mailM _ e) c)).trans f,l⟩
theorem cU.mono(a:cU base pb name room (N+1) s ms xs nk M w ws nm sv vs ma mc Mh){M':aU}{nk':Nat}(c:∀b,M b->M' b)(g:nk<=nk'):cU base pb name room (N+1) s ms xs nk' M' w ws nm sv vs ma mc Mh:=
 ⟨a.heap,a.mail,a.has,a.len,aD a.names g,λb f=>c b (a.inM b f),λd e=>c _ (a.mailM d e)⟩
theorem cU.inside(a:cU base pb name room (N+1) s ms xs nk M w ws nm sv vs ma mc Mh):cU base pb name room (N+1) s ms xs nk (λb=>M b/\b<w.heap.size) w ws nm sv vs ma mc (λb=>Mh b/\b<w.heap.size):=by
 refine⟨a.heap.inside,?_,a.has,a.len,a.names,λb k=>⟨a.inM b k.1,k.2⟩,λm c=>⟨a.mailM m c,?_⟩⟩
 ·rcases a.mail with d|⟨j,l,g,e,h,f,i⟩
  ·exact ak d
  ·exact am ⟨j,l,g,e,λn=>h n.1,f,i⟩
 ·rcases a.mail with⟨d,_⟩|⟨j,l,g,e,h,f,i⟩
  ·rw[d]at c;cases c
  ·rw[e]at c;injection c with c;rw[<-c];exact(aN.1 f).1
def zI(N:Nat)(x:Tm N)(base:Nat)(b:cP)(room:Int)(ws:List Wd)(nm:bj)(M:aU)(v:Wd)(a:Int)(w w':ah):Prop:=
 a=jl N x room ws/\(a≠0->v=(0,0)/\ap w w')/\(a=0->(bJ N x=0/\aV N x=true/\sz N x<=room-ws.length)/\v=(bu N x ws nm).1/\mO base b room (bu N x ws nm).2.1 (bu N x ws nm).2.2 M w w')
theorem AG{N:Nat}{x:Tm N}{h:cP}{e:Ending}{w w':ah}(g:JU N x base h room ws nm M w e w'):∃(v:Wd)(f:Int),e=.returned (.tuple #[.agg #[ae v.1,ae v.2],ae f])/\zI N x base h room ws nm M v f w w':=by
 by_cases a:jl N x room ws=0
 ·obtain⟨b,c,i⟩:=g.2 a;exact⟨_,0,c,a.symm,λd=>absurd rfl d,λ_=>⟨b,rfl,i⟩⟩
 ·obtain⟨b,c⟩:=g.1 a;exact⟨(0,0),_,b,rfl,λ_=>⟨rfl,c⟩,λd=>absurd d a⟩
theorem dY.nodup{c:cP}(a:dY base c room ws nm M w):nm.Nodup:=by
 obtain⟨_,_,_,_,_,b,_⟩:=a;exact b.2.1
theorem cU.put1(d:cU base pb name room (N+1) s ms [] nk M w ws nm sv vs ma mc Mh){x:Tm (N+1)}{v:Wd}{e:Int}{w':ah}(t:zI (N+1) x base (PL pb name sv (af ma vs.length mc)) room ws nm Mh v e w w'):∃A z m,cU base pb name room (N+1) s ms (if e=0 then [(v,x)]else []) (nk+201) (λb=>M b\/w.heap.size<=b) w' A z sv vs ma mc m/\ci M w w':=by
 obtain⟨f1,f2,f3⟩:=t;by_cases f:e=0
 ·obtain⟨c,rfl,k,l⟩:=f3 f;rw[if_pos f];have D:=(je (N+1) x ws nm).2;have C:=jO c.1;have B:=d.names;refine⟨_,_,λb=>Mh b\/w.heap.size<=b,⟨k,?_,?_,d.len,by omega,?_,λn r=>ak (d.mailM n r)⟩,l.mono d.inM⟩
  ·rcases d.mail with p|⟨j,y,o,e,h,i,q⟩
   ·exact ak p
   ·have u:=(aN.1 i).1;refine am ⟨j,y,o,e,λa=>?_,(l.block j u h).trans i,q⟩;rcases a with a|a
    ·exact h a
    ·omega
  ·have:=d.has;simp only[dz,eD]at this;exact this.lay x c k.nodup
  ·intro b g;rcases g with a|a
   ·exact ak (d.inM b a)
   ·exact am a
 ·obtain⟨_,g⟩:=f2 f;rw[if_neg f];exact⟨ws,nm,Mh,(d.later g).mono (λb a=>ak a) (by omega),bA g M⟩
def QB(base pb:Nat)(name:aq)(room:Int)(N:Nat)(s:Tm N)(ms:List (Tm N))(x:Tm N)(nk:Nat)(M:aU)(w:ah)(e:Ending)(w':ah):Prop:=
 ∃a:Wd,e=.returned (.tuple #[.agg #[ae a.1,ae a.2],ae (tF N x room (s::ms))])/\Hid (∃j g h i d f c,cU base pb name room N s ms (if tF N x room (s::ms)=0 then [(a,x)]else []) (nk+201) (λb=>M b\/w.heap.size<=b) w' j g h i d f c/\ci M w w')
theorem cU.put(y:cU base pb name room (N+1) s ms [] nk M w ws nm sv vs ma mc Mh)(x:Tm (N+1))(ad:In w.heap.size w (N+1) x)(ax:cE (λb=>¬M b) (N+1) x)(ao:(aF (N+1) x).length<=2097152)(G:∀b,M b->b<w.heap.size)(aO:nk<=94000)(aj:ms.length<=999)(aM:base<=w.heap.size):au 185 #[aC pb,dE (N+1) x] w (QB base pb name room (N+1) s ms x nk M w):=by
 have aN:=y.len;have aP:=y.names;have aq:=y.front;obtain⟨_,_,_,aE,aS,aG,aH,_⟩:=aq;have Z:=In.offB ax ad
 have aa:∀{f:ah}{D:List Wd}{B:Wd}{C:List Wd}{z:aw}{A:Nat}{q P:aU},cU base pb name room (N+1) s ms [] nk P f D nm B C z A q->ci M w f->(∀b,P b->M b\/w.heap.size<=b)->
   au 123 #[.pointer (some ⟨pb,1,none⟩),dE (N+1) x] f λE g=>∃(e:Wd)(d:Int),E=.returned (.tuple #[.agg #[ae e.1,ae e.2],ae d])/\zI (N+1) x base (PL pb name B (af z C.length A)) room D nm q e d f g:=by
  intro f D B C z A q P r ag an;have aA:=ag.size;obtain⟨_,_,_,_,aT,aV,aW,_⟩:=r.front;have aB:In f.heap.size f (N+1) x:=(In.off (λb (c:¬M b/\b<w.heap.size)=>ag.block b c.2 c.1) Z ad).mono aA;have az:cE (λb=>¬q b) (N+1) x:=Z.mono λb c a=>by
   rcases an b (r.inM b a)with t|t
   ·exact c.1 t
   ·have:=c.2;omega
  exact(wb (N+1) x base (PL pb name B (af z C.length A)) room D nm q f r.heap aB az ao (by omega) aG aH (by omega) (by omega)).mono λE g a=>AG a
 have T:∀{n:Nat}{V:aU}{j g:ah},ci V j g->(∀b,n<=b->b<n+3->b<j.heap.size->¬V b)->Up n j g:=λk ap=>⟨k.size,λb u O F=>k.block b F (ap b u O F)⟩;have Y:∀{e:Wd}{d:Int}{j g:ah}{D:List Wd}{B:Wd}{C:List Wd}{z:aw}{A:Nat}{q:aU},zI (N+1) x base (PL pb name B (af z C.length A)) room D nm q e d j g->ci q j g:=λ{e d j g D B C z A q} a=>by
  by_cases W:d=0
  ·exact(a.2.2 W).2.2.2
  ·exact bA (a.2.1 W).2 _
 refine(CW pb x.1.1 x.1.2.1 x.1.2.2 x.2.1.1 x.2.2.length x.2.1.2 w (λe d j g=>zI (N+1) x base (PL pb name sv (af ma vs.length mc)) room ws nm Mh e d j g)
  (λH I=>ci M w I/\H.heap.size<=I.heap.size/\∃l p i o m,cU base pb name room (N+1) s ms [] nk (λb=>M b\/H.heap.size<=b) I l nm p i o i.length m/\(l.length:Int)=((s::ms).map (sz (N+1))).sum)
  (λe d f U=>ci M w f/\w.heap.size+3<=f.heap.size/\∃l p i o m,cU base pb name room (N+1) s ms [] nk (λb=>M b\/w.heap.size+3<=b) f l nm p i o i.length m/\(l.length:Int)=((s::ms).map (sz (N+1))).sum/\zI (N+1) x base (PL pb name p (af o i.length i.length)) room l nm m e d f U) ?_ ?_ ?_).mono ?_
 ·intro j c;refine(aa (y.later c) (bA c M) λb a=>ak a).mono ?_;rintro E g ⟨e,d,rfl,h⟩;refine⟨e,d,rfl,T (Y h) λb u _ _ a=>?_,h⟩;have:=G b (y.inM b a);omega
 ·intro aK j g H c h v aD;have X:=(h.2.1 (by decide)).2;have ab:=c.size;have O:=((y.later c).later X).kept v λb a _ t=>by
   have:=G b a;omega
  have ar:ci M w H:=ci.trans ((bA c M).trans (bA X M) λ_ _ a=>a) v λb Q a=>by omega
  refine(O.tidy (by omega) aj (by omega)).mono ?_;rintro E I ⟨rfl,l,p,i,o,m,F,K,S⟩;refine⟨rfl,T K λb u _ _ a=>?_,ar.trans K λ_ _ a=>a,K.size,l,p,i,o,m,F,S⟩;have:=G b a;omega
 ·rintro H I f ⟨K,aQ,l,p,i,o,m,F,S⟩ aD c
  have r:=(F.later c).mono (M':=λb=>M b\/w.heap.size+3<=b) (nk':=nk) (λb a=>by
   rcases a with a|a
   ·exact ak a
   ·exact am (by omega)) (ay _)
  have L:ci M w f:=K.trans (bA c M) λ_ _ a=>a
  refine(aa r L λb a=>by
   rcases a with a|a
   ·exact ak a
   ·exact am (by omega)).mono ?_
  rintro E U ⟨e,d,rfl,h⟩;refine⟨e,d,rfl,T (Y h) λb u O _ a=>?_,L,by have:=c.size;omega,l,p,i,o,m,r,S,h⟩;rcases r.inM b a with t|t
  ·have:=G b t;omega
  ·omega
 ·rintro E aX ⟨e,d,rfl,⟨al,j,g,c,h,v⟩|⟨aK,j,g,H,I,f,U,_,_,_,_,_,_,⟨L,aR,l,p,i,o,m,r,av,h⟩,v⟩⟩
  ·have ab:=c.size;have J:d=tF (N+1) x room (s::ms):=by
    rw[Ff (ws:=ws) (by rw[<-h.1];exact al) aE];exact h.1
   obtain⟨l,aI,m,u,R⟩:=(y.later c).put1 h;refine⟨e,by rw[<-J],l,aI,sv,vs,ma,mc,m,?_,?_⟩
   ·rw[<-J];refine(u.kept v λb a _ t=>?_).mono (λb a=>?_) (ay _)
    ·rcases a with a|a
     ·have:=G b a;omega
     ·omega
    ·rcases a with a|a
     ·exact ak a
     ·exact am (by omega)
   ·exact ci.trans ((bA c M).trans R λ_ _ a=>a) v λb Q a=>by omega
  ·have ab:=L.size;have J:d=tF (N+1) x room (s::ms):=by
    rw[Fe av];exact h.1
   obtain⟨aL,aJ,ai,u,R⟩:=r.put1 h;refine⟨e,by rw[<-J],aL,aJ,p,i,o,i.length,ai,?_,?_⟩
   ·rw[<-J];refine(u.kept v λb a _ t=>?_).mono (λb a=>?_) (ay _)
    ·subst t;rcases a with(a|a)|a
     ·have:=G _ a;omega
     ·omega
     ·omega
    ·rcases a with(a|a)|a
     ·exact ak a
     ·exact am (by omega)
     ·exact am (by omega)
   ·refine ci.trans (L.trans R λb Q a=>?_) v λb Q a=>by omega
    rcases a with a|a
    ·exact a
    ·omega
end
theorem uA(vs:List Wd)(v:Wd):bw (vs++ [v])=bw vs++qF v:=by simp[bw]
theorem pn{P:Program}(w:ah)(t ty e:TypeId)(i:TypeInfo)(y:P.underlying t=some (.slice e))(s:P.info? e=some i)(g f d l:Nat)(h:Array ax)(r:w.heap[g]?=some (.cells h e (0,0)))(a:Addr)(m c:Nat)(b:dG)(u:b.length=m*i.size)(v:∀j k,b[j]?=some k->w.cell? (a.add j)=some k)(o:∀k∈b,k.oneCell'=true)(x:d+m<=l)(q:f+d*i.size+b.length<=h.size):(Builtin.append_ #[t,t] ty #[af (some ⟨g,f,none⟩) d l,af (some a) m c]).run P w= .ok (af (some ⟨g,f,none⟩) (d+m) l) (w.setRow g (h.toList.take (f+d*i.size)++b++h.toList.drop (f+d*i.size+b.length)).toArray):=by
 have p:=run_firstCells_some (P:=P) w i.size m a m c b u v;have n:=qn P g (f+d*i.size) e b 0 h w r (by simpa using q) o;simp only[jB]at n;simp[Builtin.append_,cI y,sizeOf,typeInfo,s,Builtin.lenOf,x,p,eR,n]
def rO(Mh:aU)(ma:aw)(vs:List Wd)(w:ah)(d:aw)(e:Nat)(w':ah):Prop:=
 ku Mh d vs e w'/\ci (λb=>∃a,ma=some a/\b=a.block) w w'/\∀a,d=some a->(∃c,ma=some c/\a.block=c.block)\/a.block=w.heap.size
theorem LN{S:aU}(w:ah)(g:Nat)(cs:Array ax)(a:∀b,b=g->S b):ci S w (w.setRow g cs):=⟨rfl,rfl,rfl,by simp,λ_ _ c=>setRow_other _ _ _ _ λe=>c (a _ e)⟩
theorem wI(a:List Wd)(C old:Nat)(c:ax)(k:c.cells.size=2)(o:old=a.length)(e:a.length<=C)(f:C<=maxLen)(g:∀b,Mh b->b<w.heap.size):rO Mh ma a w (some ⟨w.heap.size,0,none⟩) C (w.drew.alloc (.cells ((bw a).toArray++Builtin.zeroCells c.cells (C-old)) 184)):=by
 have d:∀b,b<w.heap.size->(w.drew.alloc (.cells ((bw a).toArray++Builtin.zeroCells c.cells (C-old)) 184)).heap[b]?=w.heap[b]? :=λb d=>Below.heap_alloc w.drew _ b d;have j:(w.drew.alloc (.cells ((bw a).toArray++Builtin.zeroCells c.cells (C-old)) 184)).heap[w.heap.size]?=some (.cells ((bw a).toArray++Builtin.zeroCells c.cells (C-old)) 184):=aI w.drew _;refine⟨am ⟨w.heap.size,0,_,rfl,λl=>?_,j,e,f,?_,?_⟩,⟨rfl,rfl,rfl,?_,λb i _=>d b i⟩,λm h=>am (congrArg Addr.block (aG h).symm)⟩
 ·have:=g _ l;omega
 ·rw[Array.size_append,size_zeroCells,k,fL,cO];omega
 ·rw[List.drop_zero,Array.toList_append,kp (by rw[qj,cO];omega),qj,bF (by rw[cO];omega)]
 ·have:=fN w.drew (.cells ((bw a).toArray++Builtin.zeroCells c.cells (C-old)) 184);have n:w.drew.heap.size=w.heap.size:=rfl;omega
theorem uN(ty:TypeId)(l:ku Mh ma vs d w)(N:vs.length<=1000)(u:∀b,Mh b->b<w.heap.size)(sa:Addr)(c:Nat)(v:Wd)(q:∀j k,(qF v)[j]?=some k->w.cell? (sa.add j)=some k):∃B C w',(Builtin.append_ #[187,187] ty #[af ma vs.length d,af (some sa) 1 c]).run Tryz.prog w=.ok (af B (vs.length+1) C) w'/\rO Mh ma (vs++ [v]) w B C w':=by
 obtain⟨o,hit,z,h,A⟩:=bR lT;have K:∀k∈qF v,k.oneCell'=true:=by simp[qF,Value.oneCell']
 have i:(qF v).length=2:=rfl;rcases l with⟨rfl,rfl,rfl⟩|⟨f,a,e,rfl,r,n,E,s,F,t⟩
 ·have m:=run_append_nil (P:=Tryz.prog) w 187 ty 184 o _ underlying187 hit z sa 1 c (qF v) (by rw[i,h]) q (by omega) (by omega) (by rw[A];omega);refine⟨_,_,_,m,?_⟩;have l:=wI (Mh:=Mh) (ma:=none) (w:=w) [v] (grownCap w 1 0 184) 1 (.agg #[ae 0,ae 0]) rfl rfl (grownCap_ge w 1 0 _) (grownCap_le_maxLen w 1 0 _ (by unfold maxLen;omega)) u;simpa [bw]using l
 ·have O:=(aN.1 n).1;by_cases L:vs.length+1<=d
  ·have x:a+vs.length*o.size+(qF v).length<=e.size:=by rw[i,h];omega
   have m:=pn (P:=Tryz.prog) w 187 ty 184 o underlying187 hit f a vs.length d e n sa 1 c (qF v) (by rw[i,h]) q K L x;refine⟨_,_,_,m,am ⟨f,a,_,rfl,r,setRow_heap w f e _ _ _ n,?_,s,?_,?_⟩,?_,λM G=>ak ⟨_,rfl,?_⟩⟩
   ·simp only[bm,bt,eU];omega
   ·have p:e.toList.length=e.size:=ls;rw[h]at x ⊢;simp only[fL,bm,dr,eT,p];omega
   ·rw[h];have Q:(e.toList.take (a+vs.length*2)).length=a+vs.length*2:=by
     have p:e.toList.length=e.size:=ls;rw[dr,p];omega
    have I:(e.toList.take (a+vs.length*2)).drop a=bw vs:=by
     rw[List.drop_take,Nat.add_sub_cancel_left];exact t
    rw[uA,lw,p8 (by omega),I];have g:(vs++ [v]).length*2=(bw vs).length+2:=by
     rw[cO];simp only[bm,bt,eU];omega
    rw[g,List.take_length_add_append,kp (by rw[i];omega),bF (by rw[i];omega)]
   ·exact LN w f _ λb g=>⟨_,rfl,g⟩
   ·exact congrArg Addr.block (aG G).symm
  ·have m:=run_append_grow (P:=Tryz.prog) w 187 ty 184 o _ underlying187 hit z ⟨f,a,none⟩ vs.length d (bw vs) (by rw[cO,h]) (λj k y=>by
     have J:ku Mh (some ⟨f,a,none⟩) vs d w:=am ⟨f,a,e,rfl,r,n,E,s,F,t⟩;rcases J.words with g|⟨ad,g,H⟩
     ·subst g;simp[bw]at y
     ·have D:=aG g;rw[D]
      exact H j k y) sa 1 c (qF v) (by rw[i,h]) q (by omega) (by omega) (growslice_fits (by omega) (by rw[A];omega))
   refine⟨_,_,_,m,?_⟩;have l:=wI (Mh:=Mh) (ma:=some ⟨f,a,none⟩) (w:=w) (vs++ [v]) (grownCap w (vs.length+1) d 184) (vs.length+1) (.agg #[ae 0,ae 0]) rfl (by simp) (by have:=grownCap_ge w (vs.length+1) d 184;simpa using this) (grownCap_le_maxLen w _ _ _ (by unfold maxLen;omega)) u;simpa [uA]using l
theorem xQ{x':ax}{o:Oper}{a:Act}(s x:Operand)(c:o.op=.call {callee:=.builtin .append,args:= #[s,x],argTypes:= #[187,187]})(e:a.eval s=v)(f:a.eval x=x')(d:(Builtin.append_ #[187,187] o.type #[v,x']).run Tryz.prog w=.ok u w')(b:K (a.put o.dst u) w'):Oper.wp Tryz.prog o a w K Q:=by
 unfold Oper.wp execOp;simp only[c,resolve,invoke,builtin,jD,jE,jC,jz,bz,dz,e,f,d];exact b
theorem r7(g:Nat)(k i:Int)(t:aq)(B:aw)(D C:Nat)(L aH:Nat)(ma:aw)(w:ah)(E:Wd->Int->ah->bE)(H:Wd->ah->ah->aw->Nat->bE)(aT:g<w.heap.size)(Z:Hid (∀w1,ap w w1->ai w1 g 7 (af ma L aH)))(ab:Hid (∀w0,ap w w0->au 185 #[aC g,.agg #[ae k,ae i,ag t,af B D C]] w0 λe w1=>∃(v:Wd)(h:Int),e=.returned (.tuple #[.agg #[ae v.1,ae v.2],ae h])/\Hid (Up w.heap.size w0 w1/\E v h w0 w1)))(ad:Hid (∀v w0 w1,E v 0 w0 w1->∃q r,Hid (∀w2,ap w1 w2->ai w2 g 7 (af q L r)/\∀j,w2.frozen? ⟨g,j,none⟩=false)/\Hid (∀w2,ap w1 w2->∀(sa:Addr)(c:Nat),(∀j M,(qF v)[j]?=some M->w2.cell? (sa.add j)=some M)-> ∃m n d,(Builtin.append_ #[187,187] 187 #[af q L r,af (some sa) 1 c]).run Tryz.prog w2=.ok (af m (L+1) n) d/\ai d g 7 (af q L r)/\(∀j,d.frozen? ⟨g,j,none⟩=false)/\(∀b,w1.heap.size<=b->b<w2.heap.size->d.heap[b]?=w2.heap[b]?)/\H v w0 w2 m n d))):au 162 #[aC g,.agg #[ae k,ae i,ag t,af B D C]] w λe w'=> (20<=L->e=.returned (ae 2)/\ap w w')/\(L<20->∃(v:Wd)(h:Int)(w0 w1:ah),e=.returned (ae h)/\ap w w0/\E v h w0 w1/\(h≠0->ap w1 w')/\(h=0->∃w2 m n d,ap w1 w2/\H v w0 w2 m n d/\w'=(d.setCell ⟨g,7,none⟩ (af m (L+1) n)))):=by
 have aa:=av (yG w (.cells #[ae k,ae i,ag t,af B D C] 54) rfl);have F:Hid (ap w (w.alloc (.cells #[ae k,ae i,ag t,af B D C] 54))/\(w.alloc (.cells #[ae k,ae i,ag t,af B D C] 54)).heap.size=w.heap.size+1):=⟨by go_grown,by simp⟩;go_enter func162,ntmps162;have T:=Z w (aE _ _);rcases Nat.lt_or_ge L 20 with ao|ao
 ·have ar:¬(20:Int)<=(L:Int):=by omega
  have Q:=av (ab _ F.1);go_wp2_with fail;refine Q.mono ?_;rintro e w1 ⟨v,h,rfl,N⟩;have R:Hid (∃w0,ap w w0/\E v h w0 w1):=⟨_,F.1,N.2⟩;obtain⟨w0,s⟩:=R.out;replace s:=av s;clear R N Q aa F T;by_cases K:h=0;rotate_left
  ·have aR:¬(0:Int)=h:=λe=>K e.symm;go_wp2_with fail;exact aB (v:=ae h) (by simp[results,results162,go_sem]) rfl ⟨λa=>by omega,λ_=>⟨v,h,w0,w1,rfl,s.1,s.2,λ_=>aX,λa=>absurd a K⟩⟩
  ·subst K;obtain⟨q,r,aj,ak⟩:=ad v w0 w1 s.2;have S:Hid (∃w2 f,(w2=w1.alloc (.cells #[ae v.1,ae v.2] 184)/\f=w1.heap.size)/\ap w1 w2/\w2.heap[f]?=some (.cells #[ae v.1,ae v.2] 184)/\w1.heap.size<=f):=⟨_,_,⟨rfl,rfl⟩,aX,aI _ _,ay _⟩;go_wp2_with fail;obtain⟨w2,f,⟨Y,W⟩,o⟩:=S.out;rw[<-Y,<-W];replace o:=av o;clear Y W S;have z:Hid (∀w':ah,ap w2 w'->(ai w' g 7 (af q L r)/\∀j,w'.frozen? ⟨g,j,none⟩=false)/\ai w' f 0 (ae v.1)/\ai w' f 1 (ae v.2)):=λw' a=>by
    have A:=(a.block f (aN.1 o.2.1).1).trans o.2.1;exact⟨aj _ (o.1.trans (a.mono o.1.size)),aA A 0,aA A 1⟩
   obtain⟨⟨T,aP⟩,aU,aV⟩:=z.out w2 (aE _ _);have P:Hid (ap w2 w2.drew):=(aE _ _).drew;have y:Hid (ap w2 (w2.alloc (.cells #[ae v.1,ae v.2] 184)).drew):=(show Below _ _ _ by go_grown);have O:Hid (∃m n d,(Builtin.append_ #[187,187] 187 #[af q L r,af (some ⟨w2.heap.size,0,none⟩) 1 1]).run Tryz.prog (w2.alloc (.cells #[ae v.1,ae v.2] 184)).drew=.ok (af m (L+1) n) d/\ai d g 7 (af q L r)/\(∀j,d.frozen? ⟨g,j,none⟩=false)/\(ai d f 0 (ae v.1)/\ai d f 1 (ae v.2))/\∃G,ap w1 G/\H v w0 G m n d):=by
    have V:=o.1.trans (y.mono o.1.size);have aF:=sw w2 (.cells #[ae v.1,ae v.2] 184) rfl
    obtain⟨m,n,d,aJ,aK,aL,aM,aO⟩:=ak _ V ⟨w2.heap.size,0,none⟩ 1 (λj M aD=>by
     rw[eR,cw];refine(aA aF j).trans ?_;rw[<-aD,<-List.getElem?_toArray]
     rfl)
    have X:=(aN.1 o.2.1).1;have A:=(aM f o.2.2 (aY X y.size)).trans ((y.block f X).trans o.2.1);exact⟨m,n,d,aJ,aK,aL,⟨aA A 0,aA A 1⟩,_,V,aO⟩
   obtain⟨m,n,d,J,am,an,aG,I⟩:=O.out;replace J:=av J;replace I:=av I;clear O;have x:w2.drew.cell? ⟨g,7,none⟩=some (af q L r)/\w2.drew.cell? ⟨f,0,none⟩=some (ae v.1)/\w2.drew.cell? ⟨f,1,none⟩=some (ae v.2):=⟨(z _ P).1.1,(z _ P).2⟩;have al:Hid ((w2.alloc (.cells #[ae v.1,ae v.2] 184)).drew.cell? ⟨g,7,none⟩=some (af q L r)/\(w2.alloc (.cells #[ae v.1,ae v.2] 184)).drew.cell? ⟨f,0,none⟩=some (ae v.1)/\(w2.alloc (.cells #[ae v.1,ae v.2] 184)).drew.cell? ⟨f,1,none⟩=some (ae v.2)):=⟨(z _ y).1.1,(z _ y).2⟩;refine wp_region_noPanic ?_;refine ke (λw'=>ai w' g 7 (af q L r)/\ai w' f 0 (ae v.1)/\ai w' f 1 (ae v.2)) 10 (by kernel_rfl) ?_
   try simp only[fL]
   refine bq (i:=0) (v:= ?_) rfl (by kernel_rfl) (by kernel_rfl) (by kernel_rfl) (by kernel_rfl) (λ_ _ _ a=>a) rfl ?_ x ?_;rotate_left
   ·intro w' l
    try dsimp only at l
    go_simp
    try with_reducible rfl
   try simp only[Act.put,cq]
   refine bq (i:=1) (v:= ?_) rfl (by kernel_rfl) (by kernel_rfl) (by kernel_rfl) (by kernel_rfl) (λ_ _ _ a=>a) rfl ?_ x ?_;rotate_left
   ·intro w' l
    try dsimp only at l
    go_simp
    try with_reducible rfl
   try simp only[Act.put]
   refine bq (i:=2) (v:= ?_) rfl (by kernel_rfl) (by kernel_rfl) (by kernel_rfl) (by kernel_rfl) (λ_ _ _ a=>a) rfl ?_ x ?_;rotate_left
   ·intro w' l
    try dsimp only at l
    go_simp
    try with_reducible rfl
   try simp only[Act.put]
   refine bq (i:=3) (v:= ?_) rfl (by kernel_rfl) (by kernel_rfl) (by kernel_rfl) (by kernel_rfl) (λ_ _ _ a=>a) rfl ?_ x ?_;rotate_left
   ·intro w' l
    try dsimp only at l
    go_simp
    try with_reducible rfl
   try simp only[Act.put]
   refine bq (i:=4) (v:= ?_) rfl (by kernel_rfl) (by kernel_rfl) (by kernel_rfl) (by kernel_rfl) (λ_ _ _ a=>a) rfl ?_ x ?_;rotate_left
   ·intro w' l
    try dsimp only at l
    go_simp
    try with_reducible rfl
   try simp only[Act.put]
   refine bq (i:=5) (v:= ?_) rfl (by kernel_rfl) (by kernel_rfl) (by kernel_rfl) (by kernel_rfl) (λ_ _ _ a=>a) rfl ?_ x ?_;rotate_left
   ·intro w' l
    try dsimp only at l
    go_simp
    try with_reducible rfl
   try simp only[Act.put]
   refine dv (i:=6) (by kernel_rfl) rfl rfl (λu p=>?_) (by decide)
   go_simp
   refine p _ _ (λ_=>al) (λaS=>?_);clear p u
   try simp only[Act.put,cq,dI,dH]
   refine dv (i:=7) (by kernel_rfl) rfl rfl (λu p=>?_) (by decide);refine xQ (v:=af q L r) (x':=af (some ⟨w2.heap.size,0,none⟩) 1 1) _ _ rfl (by simp[Act.eval]) (by simp[Act.eval]) J ?_;refine p _ _ (λ_=>⟨am,aG⟩) (λU=>?_);clear p u
   try simp only[Act.put,cq]
   refine dv (i:=8) (by kernel_rfl) rfl rfl (λu p=>?_) (by decide)
   go_simp
   refine p _ _ (λ_=>U) (λ_=>?_);clear p u
   try simp only[Act.put,cq,dI,dH]
   refine bq (i:=9) (v:= ?_) rfl (by kernel_rfl) (by kernel_rfl) (by kernel_rfl) (by kernel_rfl) (λ_ _ _ a=>a) rfl ?_ U ?_;rotate_left
   ·intro w' l
    try dsimp only at l
    go_simp
    try with_reducible rfl
   try simp only[Act.put,cq]
   have aQ:=an 7;refine j9 (by kernel_rfl) rfl rfl (by kernel_rfl) (λu p=>?_)
   go_simp
   refine p _ _ (NoPanic.normal ?_);clear p u
   try simp only[Act.put,cq,dI,dH]
   go_wp2_with fail;obtain⟨G,ax,az⟩:=I;exact aB (v:=ae 0) (by simp[results,results162,go_sem]) rfl ⟨λa=>by omega,λ_=>⟨v,0,w0,w1,rfl,s.1,s.2,λa=>absurd rfl a,λ_=>⟨G,m,n,d,ax,az,rfl⟩⟩⟩
 ·have ar:(20:Int)<=(L:Int):=by omega
  go_wp2_with fail;exact aB (v:=ae 2) (by simp[results,results162,go_sem]) rfl ⟨λ_=>⟨rfl,F.1⟩,λa=>by omega⟩
section
variable {base pb:Nat} {name:aq} {room:Int} {N:Nat} {s:Tm (N+1)} {ms:List (Tm (N+1))} {xs:List (Wd×Tm (N+1))} {nk:Nat} {M:aU} {w:ah} {ws:List Wd} {nm:bj} {sv:Wd} {vs:List Wd} {ma:aw} {mc:Nat} {Mh:aU}
def Ab(N:Nat)(x:Tm N)(room:Int)(s:Tm N)(ms:List (Tm N)):Int:=if 20<=ms.length then 2 else tF N x room (s::ms)
theorem cU.box0(a:cU base pb name room (N+1) s ms xs nk M w ws nm sv vs ma mc Mh):Mh pb/\pb<w.heap.size:=by
 obtain⟨f,d,e,b,_⟩:=a.heap.box;obtain⟨_,_,_,_,_,_,c,_⟩:=a.heap;exact⟨c,(PL.cells b).2.2.2.2.2⟩
theorem cU.more{v:Wd}{x:Tm (N+1)}(a:cU base pb name room (N+1) s ms [(v,x)] nk M w ws nm sv vs ma mc Mh){g:aw}{h:Nat}{i:ah}(C:rO Mh ma (vs++ [v]) w g h i):cU base pb name room (N+1) s (ms++ [x]) [] nk (λb=>M b\/w.heap.size<=b) (i.setCell ⟨pb,7,none⟩ (.slice g (vs++ [v]).length h)) ws nm sv (vs++ [v]) g h Mh/\ci M w (i.setCell ⟨pb,7,none⟩ (.slice g (vs++ [v]).length h)):=by
 obtain⟨E,r,F⟩:=C;obtain⟨q,G⟩:=a.box0;have D:∀d,ma=some d->¬Mh d.block:=λd c f=>by
  rcases a.mail with⟨e,_⟩|⟨m,t,o,l,j,_⟩
  ·rw[e]at c;cases c
  ·rw[l]at c;rw[<-aG c]at f;exact j f
 have A:dY base (PL pb name sv (af ma vs.length mc)) room ws nm Mh i:=a.heap.kept r λb n _ f=>by
  obtain⟨d,c,rfl⟩:=f;exact D d c n
 have k:=bH i pb 7 (.slice g (vs++ [v]).length h);refine⟨⟨A.turn k λI H mp B=>?_,?_,?_,?_,a.names,λb n=>ak (a.inM b n),λd c=>?_⟩,?_⟩
 ·unfold World.setCell;simp[bQ,B]
 ·rcases E with e|⟨m,t,o,l,j,p,y⟩
  ·exact ak e
  ·exact am ⟨m,t,o,l,j,(k.block m (aN.1 p).1 λe=>j (by rw[e];exact q)).trans p,y⟩
 ·have:=a.has;simpa using this
 ·simp[a.len]
 ·rcases F d c with⟨u,z,e⟩|e
  ·rw[e];exact ak (a.mailM u z)
  ·exact am (by omega)
 ·refine ci.trans (r.mono λb f=>?_) k λb _ f=>?_
  ·obtain⟨d,c,rfl⟩:=f;exact a.mailM d c
  ·rw[f];exact a.inM pb q
def Qt(base pb:Nat)(name:aq)(room:Int)(N:Nat)(s:Tm N)(ms:List (Tm N))(x:Tm N)(nk:Nat)(M:aU)(w:ah)(e:Ending)(w':ah):Prop:=
 e=.returned (ae (Ab N x room s ms))/\Hid (∃i f g h c d a,cU base pb name room N s (if Ab N x room s ms=0 then ms++ [x]else ms) [] (nk+201) (λb=>M b\/w.heap.size<=b) w' i f g h c d a/\ci M w w')
theorem cU.deliver(z:cU base pb name room (N+1) s ms [] nk M w ws nm sv vs ma mc Mh)(x:Tm (N+1))(av:In w.heap.size w (N+1) x)(an:cE (λb=>¬M b) (N+1) x)(ag:(aF (N+1) x).length<=2097152)(L:∀b,M b->b<w.heap.size)(al:nk<=94000)(ad:ms.length<=999)(aK:base<=w.heap.size):au 162 #[aC pb,dE (N+1) x] w (Qt base pb name room (N+1) s ms x nk M w):=by
 have aN:=z.len;obtain⟨aO,aq⟩:=z.box0
 refine(r7 pb x.1.1 x.1.2.1 x.1.2.2 x.2.1.1 x.2.2.length x.2.1.2 vs.length mc ma w
  (λh r p q=>r=tF (N+1) x room (s::ms)/\ci M w q/\w.heap.size<=p.heap.size/\∃o m n i g k j,cU base pb name room (N+1) s ms (if r=0 then [(h,x)]else []) (nk+201) (λb=>(M b\/p.heap.size<=b)/\b<q.heap.size) q o m n i g k j)
  (λh p v E F G=>ci M w v/\w.heap.size<=p.heap.size/\∃o m n i g k j,cU base pb name room (N+1) s ms [(h,x)] (nk+201) (λb=>M b\/p.heap.size<=b) v o m n i g k j/\rO j g (i++ [h]) v E F G) aq ?_ ?_ ?_).mono ?_
 ·intro q e;obtain⟨X,V,W,f,_⟩:=(z.later e).heap.box;exact(PL.cells f).2.2.2.1
 ·intro p e;have D:=e.size;refine((z.later e).put x ((av.below e).mono D) an ag (λb d=>aY (L b d) D) al ad (by omega)).mono ?_;rintro y q ⟨h,rfl,o,m,n,i,g,k,j,f,u⟩;refine⟨h,_,rfl,⟨u.size,λb ax _ aA=>u.block b aA λd=>?_⟩,rfl,(bA e M).trans u λ_ _ d=>d,D,o,m,n,i,g,k,_,f.inside⟩;have:=L b d;omega
 ·rintro h p q ⟨J,u,T,o,m,n,i,g,k,j,f⟩;rw[if_pos rfl]at f;have aL:=f.len;have I:i.length=vs.length:=by omega
  refine⟨g,k,λv e=>?_,λv e sa c ar=>?_⟩
  ·obtain⟨X,V,W,l,_⟩:=(f.later e).heap.box;rw[I]at l;exact⟨(PL.cells l).2.2.2.1,(PL.cells l).2.2.2.2.1⟩
  ·have t:=f.later e;have D:=e.size;obtain⟨E,F,G,S,C⟩:=uN 187 t.mail (by omega) (λb d=>aY (f.inM b d).2 D) sa c h ar;rw[I]at S;have R:∀b,(∃a,g=some a/\b=a.block)->¬j b/\b<q.heap.size:=λb d=>by
    obtain⟨a,A,rfl⟩:=d;refine⟨λZ=>?_,(f.mailM a A).2⟩;rcases f.mail with⟨y,_⟩|⟨aH,aS,aE,r,ab,_⟩
    ·rw[y]at A;cases A
    ·rw[r]at A;rw[<-aG A]at Z;exact ab Z
   obtain⟨ao,ap⟩:=t.box0;have P:G.heap[pb]?=v.heap[pb]? :=C.2.1.block pb ap λd=>(R pb d).1 ao;obtain⟨X,V,W,l,_⟩:=t.heap.box;rw[I]at l;refine⟨E,F,G,S,(bL P 7).trans (PL.cells l).2.2.2.1,λU=>?_,λb ax az=>C.2.1.block b az λd=>?_,?_⟩
   ·exact(jF (a:=⟨pb,U,none⟩) P).trans ((PL.cells l).2.2.2.2.1 U)
   ·have:=(R b d).2;omega
   ·exact⟨u.trans (bA e M) λ_ _ d=>d,T,o,m,n,i,g,k,j,t.mono (λb d=>d.1) (ay _),C⟩
 ·rintro y aT ⟨af,l⟩;by_cases K:20<=ms.length
  ·obtain⟨rfl,e⟩:=af (by omega);have B:Ab (N+1) x room s ms=2:=by simp[Ab,K]
   refine⟨by rw[B],ws,nm,sv,vs,ma,mc,Mh,?_,bA e M⟩;rw[B];exact(z.later e).mono (λb d=>ak d) (by omega)
  ·obtain⟨h,r,p,q,rfl,e,⟨J,u,T,o,m,n,i,g,k,j,f⟩,aj,ah⟩:=l (by omega);have B:Ab (N+1) x room s ms=r:=by simp[Ab,K,J]
   refine⟨by rw[B],?_⟩;rw[B];by_cases H:r=0
   ·obtain⟨v,E,F,G,aJ,⟨Q,_,aD,aw,aB,Y,aQ,aR,aa,t,C⟩,rfl⟩:=ah H;have aM:=t.len;have y:vs.length+1=(Y++ [h]).length:=by simp;omega
    obtain⟨ae,ai⟩:=t.more C;rw[y,if_pos H];have aP:=Q.size;refine⟨aD,aw,aB,Y++ [h],E,F,aa,ae.mono (λb d=>?_) (ay _),Q.trans ai λb aI d=>?_⟩
    ·rcases d with(d|d)|d
     ·exact ak d
     ·exact am (by omega)
     ·exact am (by omega)
    ·rcases d with d|d
     ·exact d
     ·omega
   ·have O:=aj H;rw[if_neg H]at f ⊢;refine⟨o,m,n,i,g,k,j,(f.later O).mono (λb d=>?_) (ay _),u.trans (bA O M) λ_ _ d=>d⟩;rcases d.1 with d|d
    ·exact ak d
    ·exact am (by omega)
end
theorem I7(y:aq)(k i:Int)(t:aq)(l:aw)(n m:Nat)(room:Int)(w:ah)(r:Bool)(C:Wd->Int->ah->bE)(H:Hid (∀w1:ah,au 115 #[ag y] w1 λe w'=>e=.returned (.bool r)/\w'=w1))(Q:Hid (r=true->∀w1:ah,au 112 #[ag y] w1 λe w'=>e=.returned (ag y)/\ap w1 w'))(P:Hid (0<=room/\room<=1000->∀w2,HB (cP.own (w.heap.size+1)) room (af none 0 0) (af none 0 0) (.map none) w2->w2.heap.size=w.heap.size+1+1->ap w w2->au 123 #[.pointer (some ⟨w.heap.size+1,0,none⟩),.agg #[ae k,ae i,ag t,af l n m]] w2 λe b=>∃(v:Wd)(c:Int),e=.returned (.tuple #[.agg #[ae v.1,ae v.2],ae c])/\Hid (∃tv lv mv,b.heap[w.heap.size+1]?=some (.cells #[ae room,tv,lv,mv] 193)/\C v c w2 b))):au 85 #[ag y,.agg #[ae k,ae i,ag t,af l n m],ae room] w λe w'=> (r=false->e=.returned (.tuple #[.pointer none,ae 5])/\ap w w')/\(r=true->¬(0<=room/\room<=1000)->e=.returned (.tuple #[.pointer none,ae 1])/\ap w w')/\ (r=true->0<=room/\room<=1000->∃(v:Wd)(c:Int)(w2 b:ah),Hid (ap w w2/\w2.heap.size=w.heap.size+1+1/\C v c w2 b)/\(c≠0->e=.returned (.tuple #[.pointer none,ae c])/\ap b w')/\ (c=0->∃(s:ah)(tv lv mv:ax),e=.returned (.tuple #[aC s.heap.size,ae 0])/\ap b s/\b.heap[w.heap.size+1]?=some (.cells #[ae room,tv,lv,mv] 193)/\w'=s.alloc (.cells #[ag y,ae room,tv,lv,mv,ae v.1,ae v.2,af none 0 0] 195))):=by
 have O:=av (yG w (.cells #[ae k,ae i,ag t,af l n m] 54) rfl);have o:Hid (ap w (w.alloc (.cells #[ae k,ae i,ag t,af l n m] 54))/\(w.alloc (.cells #[ae k,ae i,ag t,af l n m] 54)).heap.size=w.heap.size+1):=⟨by go_grown,by simp⟩;cases r with
 | false=>
  go_enter func85,ntmps85;go_wp2_with (go_at_call 115;refine(H _).mono ?_;rintro e w1 ⟨rfl,rfl⟩);exact aB (v:=.tuple #[.pointer none,ae 5]) (by simp[results,results85,go_sem]) rfl ⟨λ_=>⟨rfl,o.1⟩,λa=>(by cases a),λa=>(by cases a)⟩
 | true=>
  have R:=av (Q rfl);go_enter func85,ntmps85;go_wp2_with (go_at_call 115;refine(H _).mono ?_;rintro e w1 ⟨rfl,rfl⟩);refine(NA _ _).mono ?_;rintro e w2 ⟨p,g⟩;by_cases q:0<=room/\room<=1000;rotate_left
  ·obtain⟨rfl,rfl⟩:=p q;clear p g;go_wp2_with fail;exact aB (v:=.tuple #[.pointer none,ae 1]) (by simp[results,results85,go_sem]) rfl ⟨λa=>(by cases a),λ_ _=>⟨rfl,o.out.1⟩,λ_ a=>absurd a q⟩
  ·obtain⟨rfl,d⟩:=g q;clear p g;replace d:=av d;rw[o.out.2]at d;have G:Hid (ap w w2):=o.1.trans (d.2.2.mono (by first|exact fM _|exact o.1.size));have I:=av (P q w2 d.1 d.2.1 G);have x:Hid (w2.heap[w.heap.size]?=some (.cells #[ae k,ae i,ag t,af l n m] 54)):=(d.2.2.block _ (by have:=o.2;omega)).trans O;have t0:ai w2 w.heap.size 0 (ae k):=aA x 0;have t1:ai w2 w.heap.size 1 (ae i):=aA x 1;have t2:ai w2 w.heap.size 2 (ag t):=aA x 2;have t3:ai w2 w.heap.size 3 (af l n m):=aA x 3;go_wp2_with fail;refine I.mono ?_;rintro e b ⟨v,c,rfl,F⟩;obtain⟨tv,lv,mv,u,z⟩:=F.out;replace u:=av u;replace z:=av (show ap w w2/\w2.heap.size=w.heap.size+1+1/\C v c w2 b from⟨G,d.2.1,z⟩);clear F I t0 t1 t2 t3 x d;by_cases E:c=0;rotate_left
   ·have S:¬(0:Int)=c:=λe=>E e.symm;go_wp2_with fail;exact aB (v:=.tuple #[.pointer none,ae c]) (by simp[results,results85,go_sem]) rfl ⟨λa=>(by cases a),λ_ a=>absurd q a,λ_ _=>⟨v,c,w2,b,z,λ_=>⟨rfl,aX⟩,λa=>absurd a E⟩⟩
   ·subst E;go_wp2_with fail;have J:Hid (∃j h,(j=b.alloc (.cells #[ae v.1,ae v.2] 184)/\h=b.heap.size)/\ap b j/\j.heap[h]?=some (.cells #[ae v.1,ae v.2] 184)):=⟨_,_,⟨rfl,rfl⟩,aX,aI _ _⟩;obtain⟨j,h,⟨N,M⟩,f⟩:=J.out;rw[<-N,<-M];replace f:=av f;clear N M J;have B:Hid (∀w':ah,ap j w'->w'.cell? ⟨w.heap.size+1,0,none⟩=some (ae room)/\w'.cell? ⟨w.heap.size+1,1,none⟩=some tv/\w'.cell? ⟨w.heap.size+1,2,none⟩=some lv/\w'.cell? ⟨w.heap.size+1,3,none⟩=some mv/\ai w' h 0 (ae v.1)/\ai w' h 1 (ae v.2)):=λw' a=>by
     have p:=(a.block h (aN.1 f.2).1).trans f.2;have L:=(aN.1 u).1;have g:=(a.block _ (aY L f.1.size)).trans ((f.1.block _ L).trans u);exact⟨aA g 0,aA g 1,aA g 2,aA g 3,aA p 0,aA p 1⟩
    obtain⟨T,U,V,W,X,Y⟩:=B.out j (aE _ _);have D:Hid (ap j j.drew):=(aE _ _).drew
    go_region_held3 (λw'=>w'.cell? ⟨w.heap.size+1,0,none⟩=some (ae room)/\w'.cell? ⟨w.heap.size+1,1,none⟩=some tv/\w'.cell? ⟨w.heap.size+1,2,none⟩=some lv/\w'.cell? ⟨w.heap.size+1,3,none⟩=some mv/\w'.cell? ⟨h,0,none⟩=some (ae v.1)/\w'.cell? ⟨h,1,none⟩=some (ae v.2)) (first|(go_keep;done)|with_reducible exact B _ D|exact B _ A|exact B _ (A.trans (aX.mono A.size)))
     ((go_at_call 112;refine(R _).mono ?_;rintro e s ⟨rfl,K⟩;have A:=av (D.trans (K.mono D.size));clear K))
    go_wp2_with fail;exact aB (v:=.tuple #[aC s.heap.size,ae 0]) (by simp[results,results85,go_sem]) rfl ⟨λa=>(by cases a),λ_ a=>absurd q a,λ_ _=>⟨v,0,w2,b,z,λa=>absurd rfl a,λ_=>⟨s,tv,lv,mv,rfl,f.out.1.trans (A.out.mono f.out.1.size),u.out,rfl⟩⟩⟩
def fu(N:Nat)(x:Tm N)(room:Int)(name:aq):Int:=if eh name=false then 5 else if¬(0<=room/\room<=1000)then 1 else jl N x room []
def PT(N:Nat)(x:Tm N)(room:Int)(name:aq)(w:ah)(e:Ending)(w':ah):Prop:=
 (fu N x room name≠0->e=.returned (.tuple #[.pointer none,ae (fu N x room name)])/\ap w w')/\
 (fu N x room name=0->∃a,e=.returned (.tuple #[aC a,ae 0])/\Hid (w.heap.size<=a/\ap w w'/\∃g d f c,cU w.heap.size a name room N x [] [] 201 (λb=>w.heap.size<=b/\b<w'.heap.size) w' g d f [] none 0 c))
theorem yC{s:aq}(a:eh s=true):s.size<=2048:=by
 simp only[eh,qW,aO,cT]at a;omega
theorem In.offBelow{B:Nat}{w:ah}:{n:Nat}->{x:Tm n}->In B w n x->cE (λb=>b<B) n x
 | 0,_,k=>k
 | _+1,_,k=>by
  obtain⟨_,a⟩:=k;rcases a with a|⟨b,o,e,c,a⟩
  ·exact ak a
  ·exact am ⟨b,o,e,c,λi y d=>(a i y d).2.offBelow⟩
theorem CS(N:Nat)(x:Tm (N+1))(room:Int)(name:aq)(w:ah)(ax:name.size<=9223372036854775807)(O:In w.heap.size w (N+1) x)(ai:(aF (N+1) x).length<=2097152):au 85 #[ag name,dE (N+1) x,ae room] w (PT (N+1) x room name w):=by
 refine(I7 name x.1.1 x.1.2.1 x.1.2.2 x.2.1.1 x.2.2.length x.2.1.2 room w (eh name) (λe l o p=>ap w p/\zI (N+1) x w.heap.size (cP.own (w.heap.size+1)) room [] [] (λb=>b=w.heap.size+1) e l o p) ?_ ?_ ?_).mono ?_
 ·intro D;exact jd name D ax
 ·intro a D;exact eq name D (yC a)
 ·intro d o H aK m;have s:=m.size;have aa:dY w.heap.size (cP.own (w.heap.size+1)) room [] [] (λb=>b=w.heap.size+1) o:=⟨af none 0 0,af none 0 0,.map none,H,eV _ _ _ _,⟨eV _ _ _ _,by simp,ak ⟨rfl,rfl,rfl⟩⟩,rfl,λb f=>by simp[Value.ownBlock]at f,λb f=>by simp[Value.ownBlock]at f,λb f=>by simp[mapBlock]at f⟩;refine(wb (N+1) x w.heap.size (cP.own (w.heap.size+1)) room [] [] (λb=>b=w.heap.size+1) o aa ((O.below m).mono s) ((In.offBelow O).mono λb c f=>by omega) ai s d.1 d.2 (by simp) (by simp)).mono ?_;intro f p aw;obtain⟨e,l,rfl,i⟩:=AG aw;have I:∀{E:aU},ci E o p->(∀b,E b->w.heap.size<=b)->ap w p:=λk aj=>⟨k.os.trans m.os,k.tape.trans m.tape,k.output.trans m.output,aD s k.size,λb L=>(k.block b (aY L s) λc=>by have:=aj b c;omega).trans (m.block b L)⟩;refine⟨e,l,rfl,?_⟩;by_cases g:l=0
  ·obtain⟨_,_,t,P⟩:=i.2.2 g;obtain⟨C,A,B,ad,_⟩:=t;exact⟨C,A,B,ad.2,I P λb c=>by omega,i⟩
  ·have n:=(i.2.1 g).2;exact⟨_,_,_,(n.block _ (by omega)).trans H.2,I (bA n λ_=>False) λb c=>c.elim,i⟩
 ·rintro f aO ⟨X,Y,Z⟩;cases hn:eh name with
  | false=>
   have h:fu (N+1) x room name=5:=by simp[fu,hn]
   refine⟨λ_=>by rw[h];exact X hn,λa=>by rw[h]at a;cases a⟩
  | true=>
   by_cases d:0<=room/\room<=1000;rotate_left
   ·have h:fu (N+1) x room name=1:=by simp[fu,hn,d]
    refine⟨λ_=>by rw[h];exact Y hn d,λa=>by rw[h]at a;cases a⟩
   ·obtain⟨e,l,o,p,Q,d1,d2⟩:=Z hn d;obtain⟨aE,aL,n,i⟩:=Q;have h:fu (N+1) x room name=l:=by rw[i.1];simp[fu,hn,d]
    have M:=n.size;rw[PT,h];refine⟨λg=>⟨(d1 g).1,n.trans ((d1 g).2.mono M)⟩,λg=>?_⟩;obtain⟨j,C,A,B,rfl,r,J,rfl⟩:=d2 g;have aJ:=r.size;obtain⟨K,ay,t,P⟩:=i.2.2 g;have ar:=t.nodup;have ab:=(t.later r);obtain⟨y,u,v,R,S,T,aC,U,V,W⟩:=ab;have an:=(aN.1 J).1;have F:(Obj.cells #[ae room,y,u,v] 193)=(Obj.cells #[ae room,C,A,B] 193):=aG (R.2.symm.trans ((r.block _ an).trans J));simp only[Obj.cells.injEq,Array.mk.injEq,lA,gS,true_and]at F;obtain⟨rfl,rfl,rfl⟩:=F;have z:ap j (j.alloc (.cells #[ag name,ae room,y,u,v,ae e.1,ae e.2,af none 0 0] 195)):=aX;have az:(j.alloc (.cells #[ag name,ae room,y,u,v,ae e.1,ae e.2,af none 0 0] 195)).heap.size=j.heap.size+1:=by simp
    refine⟨j.heap.size,rfl,by omega,(n.trans (r.mono M)).trans (z.mono (by omega)),(bu (N+1) x [] []).2.1,(bu (N+1) x [] []).2.2,e,λb=>b=j.heap.size\/(w.heap.size<=b/\b<j.heap.size),?_⟩;have al:kL (N+1) [] [] room [] ([]:List (Tm (N+1))):=⟨⟨rfl,λaM e aA a=>by simp at a⟩,by simp,λaA a=>by simp at a,by simp,by simp;exact d.1,d.1,d.2,by simp⟩;have ao:=al.lay x K ar;have av:=(je (N+1) x [] []).2;have aH:=jO K.1;simp only[eU]at av;refine⟨⟨y,u,v,⟨⟨rfl,am rfl⟩,aI _ _⟩,ey S (bA z λ_=>False) (λ_ _ c=>c),T.kept (bA z λ_=>False) (λ_ _ c=>c) (λ_ _ c=>c),ak rfl,λb c=>am ?_,λb c=>am ?_,λb c=>am ?_⟩,ak ⟨rfl,rfl,rfl⟩,?_,rfl,by omega,λb c=>?_,λaB a=>by cases a⟩
    ·have a:=U b c;have G:=a.2;rcases a.1 with q|q<;>exact⟨by omega,by omega⟩
    ·have a:=V b c;have G:=a.2;rcases a.1 with q|q<;>exact⟨by omega,by omega⟩
    ·have a:=W b c;have G:=a.2;rcases a.1 with q|q<;>exact⟨by omega,by omega⟩
    ·rw[ay];exact ao
    ·rw[az];rcases c with c|c<;>exact⟨by omega,by omega⟩
def vg(w:ah)(c:Nat)(a b:Int):ah:=(w.setCell ⟨c,5,none⟩ (ae a)).setCell ⟨c,6,none⟩ (ae b)
def Qq(b d e:Nat)(t0 t1:Int)(t2:aq)(g:aw)(i h:Nat)(s0 s1:Int)(f:aq)(sa:aw)(sl sc:Nat)(W:ah):Prop:=
 W.heap[d]?=some (.cells #[ae t0,ae t1,ag t2,af g i h] 54)/\W.heap[e]?=some (.cells #[ae s0,ae s1,ag f,af sa sl sc] 54)/\(∃a,W.cell? ⟨b,5,none⟩=some (ae a))/\(∃a,W.cell? ⟨b,6,none⟩=some (ae a))/\∀c,W.frozen? ⟨b,c,none⟩=false
theorem Bw(t0 t1:Int)(t2:aq)(m:aw)(o n:Nat)(c:Nat)(w:ah)(S:Int->Int->aq->aw->Nat->Nat->bE)(P1:ah->Wd->Int->bE)(R:Bool->bE)(aJ:Hid (∀W,ap w W->au 93 #[aC c] W λe w'=>∃s0 s1 h sa sl sc,e=.returned (.agg #[ae s0,ae s1,ag h,af sa sl sc])/\Hid (ap W w'/\S s0 s1 h sa sl sc w')))(aD:Hid (∀W,ap w W->(∃a,ai W c 5 (ae a))/\(∃a,ai W c 6 (ae a))/\(∀j,W.frozen? ⟨c,j,none⟩=false)/\c<w.heap.size))(aH:Hid (∀s0 s1 h sa sl sc aR H g i,S s0 s1 h sa sl sc aR->ap aR H->ap w H->w.heap.size<=g->w.heap.size<=i->Qq c g i t0 t1 t2 m o n s0 s1 h sa sl sc (vg H c 1 0)->au 185 #[aC c,.agg #[ae t0,ae t1,ag t2,af m o n]] (vg H c 1 0) λe w'=>∃(v:Wd)(r:Int),e=.returned (.tuple #[.agg #[ae v.1,ae v.2],ae r])/\Hid (Qq c g i t0 t1 t2 m o n s0 s1 h sa sl sc w'/\P1 H v r w'/\ (r=0->∀W,ap w' W->R true (vg W c v.1 v.2))/\ (r≠0->∀W d,ap w' W->w'.heap.size<=d->d<W.heap.size->au 185 #[aC c,.agg #[ae s0,ae s1,ag h,af sa sl sc]] W λe L=>∃(v2:Wd)(aS:Int),e=.returned (.tuple #[.agg #[ae v2.1,ae v2.2],ae aS])/\Hid ((∀a8,W.heap[d]?=some a8->L.heap[d]?=some a8)/\((∃a,ai L c 5 (ae a))/\(∃a,ai L c 6 (ae a))/\∀j,L.frozen? ⟨c,j,none⟩=false)/\∀aQ,bG (λb=>b=d) L aQ->R false (vg aQ c v2.1 v2.2)))))):au 180 #[aC c,.agg #[ae t0,ae t1,ag t2,af m o n]] w λe w'=>∃t,e=.returned (.bool t)/\Hid (R t w'):=by
 have aL:Hid (∃Y l,(Y=w.alloc (.cells #[ae t0,ae t1,ag t2,af m o n] 54)/\l=w.heap.size)/\ap w Y/\Y.heap[l]?=some (.cells #[ae t0,ae t1,ag t2,af m o n] 54)/\w.heap.size<=l):=⟨_,_,⟨rfl,rfl⟩,aT _ _,aI _ _,ay _⟩;go_enter func180,ntmps180;go_wp2_with fail;obtain⟨Y,g,⟨a4,a3⟩,aV,J,a0⟩:=aL.out;rw[<-a4,<-a3];have aa:=av aV;have x:=av J;have aE:=av a0;clear a4 a3 aV J a0 aL;refine(aJ _ aa).mono ?_;rintro e Z ⟨s0,s1,h,sa,sl,sc,rfl,M⟩;have O:=av (aa.trans (M.1.mono aa.size));have aM:Hid (∃k l,(k=Z.alloc (.cells #[ae s0,ae s1,ag h,af sa sl sc] 54)/\l=Z.heap.size)/\ap Z k/\k.heap[l]?=some (.cells #[ae s0,ae s1,ag h,af sa sl sc] 54)/\w.heap.size<=l/\k.heap[g]?=some (.cells #[ae t0,ae t1,ag t2,af m o n] 54)):=by
  have bg:=(aN.1 x).1;have aU:=(M.1.block g bg).trans x;exact⟨_,_,⟨rfl,rfl⟩,aT _ _,aI _ _,O.size,((aT _ _).block g (aN.1 aU).1).trans aU⟩
 have aK:=av M.2;clear M aJ x;go_upto_region 2 with fail;obtain⟨k,i,⟨a5,s⟩,ao,aX,a1,J⟩:=aM.out;rw[<-a5,<-s];have ab:=av (O.trans (ao.mono O.size));have aA:=av ao;have al:=av aX;have x:=av J;have aF:=av a1;clear a5 s ao aX a1 J aM;obtain⟨⟨bn,bb⟩,⟨bo,bc⟩,T,bs⟩:=aD.out k ab;have f5:=T 5;have f6:=T 6;have u:Hid (Qq c g i t0 t1 t2 m o n s0 s1 h sa sl sc (vg k c 1 0)):=by
  have aZ:bG (λb=>b=c) k (vg k c 1 0):=bG.trans (bM k c 5 _) (bM _ c 6 _) λ_ _ e=>e;refine⟨(aZ.block g (aN.1 x).1 (by have:=aE.out;omega)).trans x,(aZ.block i (aN.1 al).1 (by have:=aF.out;omega)).trans al,⟨1,?_⟩,⟨0,?_⟩,λj=>?_⟩
  ·exact(dQ 5 (by decide)).trans (iO _ _ _ bb)
  ·exact iO _ _ _ ((dQ 6 (by decide)).trans bc)
  ·unfold vg;rw[ia,ia];exact T j
 have ad:=av (aH s0 s1 h sa sl sc Z k g i aK aA ab aE aF u);clear aH T aD;go_upto_region 3 with fail;obtain⟨E,V⟩:∃E,E=vg k c 1 0:=⟨_,rfl⟩;rw[<-V]at ad u;unfold vg at V;rw[<-V];have bj:ai E g 0 (ae t0):=aj u.1 0;have bk:ai E g 1 (ae t1):=aj u.1 1;have bl:ai E g 2 (ag t2):=aj u.1 2;have bm:ai E g 3 (af m o n):=aj u.1 3;clear V bb bc f5 f6 x al ab aA O aK u;go_wp2_with fail;refine ad.mono ?_;rintro e F ⟨v,r,rfl,q⟩;have aO:Hid (∃f l,(f=F.alloc (.cells #[ae v.1,ae v.2] 184)/\l=F.heap.size)/\ap F f/\f.heap[l]?=some (.cells #[ae v.1,ae v.2] 184)/\F.heap.size<=l):=⟨_,_,⟨rfl,rfl⟩,aT _ _,aI _ _,ay _⟩;go_upto_region 4 with fail;obtain⟨f,d,⟨a6,z⟩,aW,aY,a2⟩:=aO.out;rw[<-a6,<-z];have C:=av aW;have Q:=av aY;have aG:=av a2;clear a6 z aW aY a2 aO bj bk bl bm ad;have P:Hid (c<F.heap.size):=by
  obtain⟨a,an⟩:=q.out.1.2.2.1;exact lK F ⟨c,5,none⟩ an
 have bd:Hid ((∃a,ai f c 5 (ae a))/\(∃a,ai f c 6 (ae a))/\∀j,f.frozen? ⟨c,j,none⟩=false):=by
  obtain⟨_,_,⟨a,an⟩,⟨b,bf⟩,y⟩:=q.out.1;refine⟨⟨a,(C.cell (p:=⟨c,5,none⟩) P).trans an⟩,⟨b,(C.cell (p:=⟨c,6,none⟩) P).trans bf⟩,λj=>?_⟩;have y:=y j;unfold World.frozen? at y ⊢;rw[C.out.block c P.out];exact y
 have bp:ai f d 0 (ae v.1):=aj Q 0;have bq:ai f d 1 (ae v.2):=aj Q 1;by_cases I:r=0
 ·have G:=av (q.2.2.1 I f C);unfold vg at G;obtain⟨⟨a,X⟩,⟨b,ax⟩,D⟩:=bd;have f5:=D 5;have f6:=D 6;clear D q;subst I;go_wp2_with fail
  go_ret
  exact⟨true,rfl,G⟩
 ·have br:¬(0:Int)=r:=λe=>I e.symm;have be:=av (q.2.2.2 I f d C aG (aN.1 Q).1);have s:=(C.block i (aN.1 q.1.2.1).1).trans q.1.2.1;have bv:ai f i 0 (ae s0):=aj s 0;have bw:ai f i 1 (ae s1):=aj s 1;have bx:ai f i 2 (ag h):=aj s 2;have bz:ai f i 3 (af sa sl sc):=aj s 3;clear s q;go_wp2_with fail;refine be.mono ?_;rintro e A ⟨v2,aS,rfl,N⟩;have z:=N.1 _ Q;have a9:ai A d 0 (ae v.1):=aj z 0;have ba:ai A d 1 (ae v.2):=aj z 1;have az:∀j,A.frozen? ⟨d,j,none⟩=false:=λj=>by simp[World.frozen?,z]
  have bh:=az 0;have bi:=az 1;have aP:Hid (∃B,B=(A.setCell ⟨d,0,none⟩ (ae v2.1)).setCell ⟨d,1,none⟩ (ae v2.2)/\(ai B d 0 (ae v2.1)/\ai B d 1 (ae v2.2))/\bG (λb=>b=d) A B):=by
   refine⟨_,rfl,⟨?_,?_⟩,bG.trans (bM A d 0 _) (bM _ d 1 _) λ_ _ e=>e⟩
   ·exact(dQ 0 (by decide)).trans (iO _ _ _ a9)
   ·exact iO _ _ _ ((dQ 1 (by decide)).trans ba)
  clear az z;go_upto_region 6 with fail;obtain⟨B,a7,⟨y0,y1⟩,K⟩:=aP.out;rw[<-a7];have G:=av (N.2.2 B K);unfold vg at G;obtain⟨⟨a,X⟩,⟨b,ax⟩,D⟩:=N.out.2.1;have U:=lK A ⟨c,5,none⟩ X;have ar:c≠d:=by have:=P.out;have:=aG.out;omega
  have bt:=(K.cell 5 U ar).trans X;have bu:=(K.cell 6 U ar).trans ax;have am:∀j,B.frozen? ⟨c,j,none⟩=false:=λj=>by
   have y:=D j;unfold World.frozen? at y ⊢;rw[K.block c U ar];exact y
  have f5:=am 5;have f6:=am 6;clear a7 aP K X ax D am N a9 ba bh bi U;go_wp2_with fail;exact aB (v:=.bool (r==0)) (by simp[results,results180,go_sem]) rfl (ak ⟨bY (by simpa using I),G.out⟩)
def fS(n m:Nat):Option (Tm n)->Option (Tm m)->Prop
 | none,none=>True
 | some x,some y=>aH n x m y=true
 | _,_=>False
theorem oo{l:Nat}{o:Option (Tm n)}{p:Option (Tm m)}{f:Tm n->Option (Tm k)}{g:Tm m->Option (Tm l)}(a:fS n m o p)(b:∀x y,aH n x m y=true->fS k l (f x) (g y)):fS k l (o.bind f) (p.bind g):=by
 cases o with
 | none=>
  cases p with
  | none=>trivial
  | some _=>exact a.elim
 | some x=>
  cases p with
  | none=>exact a.elim
  | some y=>exact b x y a
theorem jg(c:n<=N)(b:m<=M){x:Tm n}{y:Tm m}(d:aJ ⟨n,x⟩)(e:aJ ⟨m,y⟩)(a:aH n x m y=true):aH N (bi N n x) M (bi M m y)=true:=
 bU _ _ _ _ _ _ (fQ N n c x d) (bU _ _ _ _ _ _ a (dD _ _ _ _ (fQ M m b y e)))
theorem lQ:(n:Nat)->(x:Tm n)->(m:Nat)->(y:Tm m)->aH n x m y=true->cg ⟨n,x⟩=cg ⟨m,y⟩/\qq n x=qq m y
 | 0,_,_,_,h=>by simp[aH]at h
 | _+1,_,0,_,h=>by simp[aH]at h
 | n+1,x,m+1,y,h=>by
  simp only[aH,aO,cR]at h;exact⟨h.1.1.1,h.1.1.2⟩
theorem zm{a c:Tm N}{b d:Tm M}(h:aH N a M b=true)(i:aH N c M d=true):fS (N+1) (M+1) (uP N a c) (uP M b d):=by
 have e:=lQ _ _ _ _ h;have f:=lQ _ _ _ _ i;have g:AV N a c=AV M b d:=by
  unfold AV;rw[e.1,e.2,f.1,f.2]
 unfold uP;rw[<-g,<-e.2,<-f.2];cases AV N a c
 ·simp[fS]
 ·simp[fS,aH,cv,aL]
theorem vu{i:Type}{N M:Nat}(f:i->Option (Tm N))(g:i->Option (Tm M)):(p:List i)->(∀a∈p,fS N M (f a) (g a))->fS (N+1) (M+1) ((cY f p).map (dR N)) ((cY g p).map (dR M))/\((cY f p=none/\cY g p=none)\/∃l r,cY f p=some l/\cY g p=some r/\aL (λx y=>aH N x M y) l r=true)
 | [],_=>⟨by simp[cY,fS,aH,dR,aL],am ⟨[],[],rfl,rfl,rfl⟩⟩
 | a::p,h=>by
  have b:=h a (by simp);have n:=(vu f g p λx o=>h x (by simp[o])).2;simp only[cY];cases e1:f a with
  | none=>
   rw[e1]at b;cases c:g a with
   | none=>simp[fS]
   | some _=>rw[c]at b;exact b.elim
  | some m=>
   rw[e1]at b;cases c:g a with
   | none=>rw[c]at b;exact b.elim
   | some v=>
    rw[c]at b;have j:aH N m M v=true:=b;rcases n with⟨d,e⟩|⟨l,r,d,e,k⟩
    ·rw[d,e];simp[fS]
    ·rw[d,e];exact⟨by simp[fS,aH,dR,aL,j,k],am ⟨m::l,v::r,rfl,rfl,by simp[aL,j,k]⟩⟩
theorem sN(m:Nat)(b:List (Tm m))(f:Nat)(a:List (Tm f))(self:Int)(i:aL (λx y=>aH m x f y) b a=true)(p:∀y∈b,aJ ⟨m,y⟩)(q:∀y∈a,aJ ⟨f,y⟩):(n:Nat)->(x:Tm n)->aJ ⟨n,x⟩->fS (m+n) (f+n) (vl m b self n x) (vl f a self n x)
 | 0,_,_=>trivial
 | n+1,x,hx=>by
  have z:=cV _ _ _ i;have w:aH (n+1) x (n+1) x=true:=fR _ _ hx;unfold vl;by_cases k:x.1.1=5
  ·rw[if_pos k,if_pos k];cases e:b[x.1.2.1.toNat]? with
   | none=>
    have g:a[x.1.2.1.toNat]?=none:=by
     rw[List.getElem?_eq_none_iff]at e ⊢;omega
    rw[g];trivial
   | some y=>
    obtain⟨u,_⟩:=aZ.1 e;have g:a[x.1.2.1.toNat]?=some a[x.1.2.1.toNat]:=aS (by omega);rw[g];have s:aH m y f a[x.1.2.1.toNat]=true:=jY _ _ _ i _ _ _ e g;simp only[dS];rw[<-(lQ _ _ _ _ s).1];by_cases d:cg ⟨m,y⟩=6
    ·rw[if_pos d,if_pos d];trivial
    ·rw[if_neg d,if_neg d];exact jg (by omega) (by omega) (p y (aR e)) (q _ (aR g)) s
  ·rw[if_neg k,if_neg k];by_cases d:x.1.1=6
   ·rw[if_pos d,if_pos d];trivial
   ·rw[if_neg d,if_neg d];by_cases j:x.1.1=4
    ·rw[if_pos j,if_pos j];by_cases r:uX n x.2.2 qE 0=true
     ·rw[if_pos r,if_pos r];simp[fS,aH,cv,aL]
     ·rw[if_neg r,if_neg r];by_cases l:uX n x.2.2 A6 2=true
      ·rw[if_pos l,if_pos l];cases e1:x.2.2[1]? with
       | none=>trivial
       | some h=>
        cases g:x.2.2[2]? with
        | none=>trivial
        | some c=>
         simp only[dS];exact oo (sN m b f a self i p q n h (br n x h hx (aR e1))) λA C u=>oo (sN m b f a self i p q n c (br n x c hx (aR g))) λB D v=>zm u v
      ·rw[if_neg l,if_neg l];by_cases o:uX n x.2.2 DC 1=true
       ·rw[if_pos o,if_pos o];cases e1:x.2.2[1]? with
        | none=>trivial
        | some h=>
         have t:=br n x h hx (aR e1);simp only[dS];cases aV n h
         ·simp[fS]
         ·exact jg (by omega) (by omega) t t (fR _ _ t)
       ·rw[if_neg o,if_neg o];exact(vu _ _ x.2.2 λy s=>sN m b f a self i p q n y (br n x y hx s)).1
    ·rw[if_neg j,if_neg j];exact jg (by omega) (by omega) hx hx w
def MA:(D:Nat)->(n:Nat)->Tm n->Tm D
 | 0,_,_=>()
 | _+1,0,_=>((0,0,.empty),(none,0),[])
 | D+1,n+1,x=>(x.1,(none,0),x.2.2.map λy=>MA D n y)
theorem Kh:(D:Nat)->(n:Nat)->(x:Tm n)->(m:Nat)->(y:Tm m)->aH n x m y=true->MA D n x=MA D m y
 | 0,_,_,_,_,_=>rfl
 | D+1,0,_,_,_,h=>by simp[aH]at h
 | D+1,n+1,_,0,_,h=>by simp[aH]at h
 | D+1,n+1,x,m+1,y,h=>by
  obtain⟨c,d⟩:=bT h;have e:=jm _ (λa=>MA D n a) (λb=>MA D m b) _ _ (λa _ b f=>Kh D n a m b f) d;simp only[MA,c,e];rfl
theorem BT{n:Nat}:(l:List (Tm n))->(m:Int)->m<=l.foldl (λm y=>max m (gI n y)) m/\∀y∈l,gI n y<=l.foldl (λm y=>max m (gI n y)) m
 | [],m=>⟨ki _,λy b=>by simp at b⟩
 | a::l,m=>by
  obtain⟨d,c⟩:=BT l (max m (gI n a));simp only[gf];refine⟨by omega,λy b=>?_⟩;rcases co.1 b with rfl|b
  ·omega
  ·exact c y b
theorem oV{x:Tm (n+1)}(e:aJ ⟨n+1,x⟩){y:Tm n}(c:y∈x.2.2):gI n y+1<=gI (n+1) x:=by
 have d:x.1.1=4:=by
  have b:=e _ (qh ..);simp only[cJ,aO,kh,cR,p7,decide_eq_false_iff_not]at b;rcases b.2 with a|a
  ·exact a
  ·have:=List.length_pos_of_mem c;omega
 have:=(BT x.2.2 0).2 y c;simp only[gI,if_pos d];omega
theorem BA:(D:Nat)->(n:Nat)->(x:Tm n)->aJ ⟨n,x⟩->gI n x<D->aH D (MA D n x) n x=true
 | _,0,_,h,_=>(dF h).elim
 | 0,n+1,x,_,h=>by
  have:=(ii (n+1) x).1;omega
 | D+1,n+1,x,hr,h=>dB rfl (jo _ _ _ λy a=>BA D n y (br n x y hr a) (by
  have:=oV hr a
  omega))
theorem jU:(D:Nat)->(n:Nat)->(x:Tm n)->aJ ⟨n,x⟩->gI n x<D->aH D (bi D n x) n x=true
 | _,0,_,h,_=>(dF h).elim
 | 0,n+1,x,_,h=>by
  have:=(ii (n+1) x).1;omega
 | D+1,n+1,x,hr,h=>dB rfl (jo _ _ _ λy a=>jU D n y (br n x y hr a) (by
  have:=oV hr a
  omega))
theorem Lj(D n:Nat)(x:Tm n)(w:ah)(b o:Nat)(g:0<D)(k:ee w b o n x):ee w b o D (bi D n x):=by
 cases n with
 | zero=>exact k.elim
 | succ n=>
  obtain⟨D,rfl⟩:∃a,D=a+1:=⟨D-1,by omega⟩;obtain⟨c,d,e,f⟩:=k;exact⟨c,d,e,by simpa [bi]using f⟩
theorem tC:(D n:Nat)->(x:Tm n)->(B:Nat)->(w:ah)->aJ ⟨n,x⟩->gI n x<D->In B w n x->In B w D (bi D n x)
 | _,0,_,_,_,_,_,k=>k.elim
 | 0,n+1,x,_,_,_,h,_=>by
  have:=(ii (n+1) x).1;omega
 | D+1,n+1,x,B,w,hr,h,k=>by
  obtain⟨l,a⟩:=k;refine⟨by simpa [bi]using l,?_⟩;rcases a with a|⟨b,o,e,j,a⟩
  ·exact ak (by simp[bi,a])
  ·refine am ⟨b,o,e,j,λi y g=>?_⟩;simp only[bi,df]at g;obtain⟨c,d,rfl⟩:=cH.1 g;have f:=aR d;have p:=oV hr f;have m:=(ii n c).1;exact⟨Lj D n c w b _ (by omega) (a i c d).1,tC D n c B w (br n x c hr f) (by omega) (a i c d).2⟩
theorem Av(D n:Nat)(x:Tm (n+1)):dE (D+1) (bi (D+1) (n+1) x)=dE (n+1) x:=by
 simp[dE,bi]
theorem uY:(D n:Nat)->(x:Tm n)->(P:aU)->aJ ⟨n,x⟩->gI n x<D->cE P n x->cE P D (bi D n x)
 | _,0,_,_,h,_,_=>(dF h).elim
 | 0,n+1,x,_,_,h,_=>by
  have:=(ii (n+1) x).1;omega
 | D+1,n+1,x,P,hr,h,k=>by
  rcases k with k|⟨b,o,e,g,k⟩
  ·exact ak (by simp[bi,k])
  ·refine am ⟨b,o,e,g,λi y d=>?_⟩;simp only[bi,df]at d;obtain⟨a,f,rfl⟩:=cH.1 d;have c:=aR f;have j:=oV hr c;exact uY D n a P (br n x a hr c) (by omega) (k i a f)
abbrev Tc:Type:=Tm 13
def cn(n:Nat)(x:Tm n):Tc:=MA 13 n x
theorem gA{x:Tm n}{y:Tm m}(a:aH n x m y=true):cn n x=cn m y:=Kh 13 n x m y a
theorem eF{x:Tm n}(a:bJ n x=0):aH 13 (cn n x) n x=true:=by
 obtain⟨b,c,_⟩:=bS.1 a;exact BA 13 n x (aW.2 b) (by omega)
theorem MV{x:Tm n}(a:bJ n x=0):cn 13 (cn n x)=cn n x:=gA (eF a)
theorem oU{x:Tm n}(a:bJ n x=0):bJ 13 (cn n x)=0:=by rw[bN (eF a),a]
theorem Ga{x:Tm n}(a:bJ n x=0):sz 13 (cn n x)=sz n x:=kV _ _ _ _ (eF a)
theorem mW{x:Tm n}(a:bJ n x=0):aV 13 (cn n x)=aV n x:=cF _ _ _ _ (eF a)
theorem QJ:(p:List (Tm n))->(q:List (Tm m))->aL (λx y=>aH n x m y) p q=true->p.map (cn n)=q.map (cn m):=λp q a=>jm _ _ _ p q (λ_ _ _ b=>gA b) a
def nU:List An:=oO 1 (List.replicate 4 fE)
def P3(a:An):Tc:=cn a.1 a.2
def mi{n:Nat}(c:Cl (n+1))(s m:Tc):Option (List Tc):=(ja (n+1) c.1.1 13 s nU).bind λb=>(ja (n+1) c.1.2.1 13 m b).map λa=>a.map P3
def mV{n:Nat}(s m:Tc):List (Cl (n+1))->Option (Cl (n+1)×List Tc)
 | []=>none
 | c::l=>match mi c s m with
  | some b=>some (c,b)
  | none=>mV s m l
def td{n:Nat}(l:List (Cl (n+1)))(s:Tc):List Tc->Nat->Option (Nat×Cl (n+1)×List Tc)
 | [],_=>none
 | m::ms,i=>match mV s m l with
  | some x=>some (i,x)
  | none=>td l s ms (i+1)
theorem IQ{x y:An}(a:eH x y=true)(d:DQ y):DQ x:=by
 obtain⟨b,c⟩:=d;refine⟨(bN a).trans b,?_⟩;rw[wi a,cF _ _ _ _ a];exact c
theorem tM{d g:Type}(f:d->g->Bool):(p:List d)->(q:List g)->aL f p q=true->∀x∈p,∃y∈q,f x y=true
 | [],_,_,x,c=>by simp at c
 | _::_,[],h,_,_=>by simp[aL]at h
 | a::p,b::q,h,x,c=>by
  simp only[aL,aO]at h;rcases co.1 c with rfl|c
  ·exact⟨b,by simp,h.1⟩
  ·obtain⟨y,i,e⟩:=tM f p q h.2 x c;exact⟨y,b8 _ i,e⟩
theorem IR(a:aL eH p q=true)(b:∀y∈q,DQ y):∀x∈p,DQ x:=λx c=>by
 obtain⟨y,d,e⟩:=tM _ _ _ a x c;exact IQ e (b y d)
theorem sY{n:Nat}:(l:List (Tm n))->(b:List An)->(∀y∈b,aJ y/\y.1<=n)->aL (λx y=>aH n x n y) l (b.map λa=>bi n a.1 a.2)=true->aL eH (oO n l) b=true
 | [],[],_,_=>rfl
 | [],_::_,_,h=>by simp[aL]at h
 | _::_,[],_,h=>by simp[aL]at h
 | x::l,a::b,hb,h=>by
  simp only[bz,aL,aO]at h;simp only[oO,bz,aL,aO];obtain⟨c,d⟩:=hb a (by simp);exact⟨bU _ _ _ _ _ _ h.1 (fQ n a.1 d a.2 c),sY l b (λy e=>hb y (b8 _ e)) h.2⟩
theorem Kp(a:aL eH p q=true):p.map P3=q.map P3:=jm _ _ _ p q (λ_ _ _ b=>gA b) a
theorem vv:aL eH nU nU=true:=by
 refine jp _ _ λa b=>?_;exact fR _ _ (sB (DT a b))
theorem Oo{x:Tm n}(a:bJ n x=0)(b:aV n x=true):DQ ⟨n,x⟩:=⟨a,am b⟩
theorem cE.both{P Q:aU}:{n:Nat}->{x:Tm n}->cE P n x->cE Q n x->cE (λb=>P b/\Q b) n x
 | 0,_,p,_=>p
 | _+1,_,p,k=>by
  rcases p with p|⟨b,o,e,g,p⟩
  ·exact ak p
  ·rcases k with k|⟨j,l,a,h,k⟩
   ·exact ak k
   ·rw[e]at a;injection a with a;injection a with d f;subst d f;exact am ⟨b,o,e,⟨g,h⟩,λi y c=>(p i y c).both (k i y c)⟩
structure rL (D:Nat) (l:List (Tm D)) (B:List Tc) (b0:Nat) (w':ah) (bg bc:Nat):Prop where
 bnd:gF D l=true
 tells:l.map (cn D)=B
 cap:4<=bc/\bc<=maxLen
 new:b0<=bg/\bg<w'.heap.size
 at':∀(i:Nat)(y:Tm D),l[i]?=some y->ee w' bg (i*4) D y/\In w'.heap.size w' D y/\cE (λq=>b0<=q/\q≠bg) D y
 free:∀j,w'.frozen? ⟨bg,j,none⟩=false
def Ol{n:Nat}(c:Cl (n+1))(s m:Tc)(w:ah)(e:Ending)(w':ah):Prop:=
 ∃b len f g,e=.returned (.tuple #[af b len f,.bool g])/\Hid (ap w w'/\g=(mi c s m).isSome/\∀a,mi c s m=some a->len=4/\∃h l d,b=some ⟨d,0,none⟩/\rL h l a w.heap.size w' d f)
theorem KK(c:Cl (n+1))(s:Tm (m+1))(t:Tm (k+1))(R:bJ (n+1) c.1.1=0)(S:bJ (n+1) c.1.2.1=0)(A:bJ (m+1) s=0)(T:aV (m+1) s=true)(B:bJ (k+1) t=0)(U:aV (k+1) t=true){e:Ending}(Q:JT (ja (n+1) c.1.1 (m+1) s nU) (ja (n+1) c.1.2.1 (k+1) t) w e w'):Ol c (cn (m+1) s) (cn (k+1) t) w e w':=by
 obtain⟨K,len,P,aq,rfl,J⟩:=Q;obtain⟨V,Z,ae⟩:=J;refine⟨K,len,P,aq,rfl,V,?_⟩;have f:=mY (n+1) c.1.1 (m+1) s (n+1) c.1.1 13 (cn (m+1) s) nU nU (fR _ _ (aW.2 (bS.1 R).1)) (dD _ _ _ _ (eF A)) vv;cases e1:ja (n+1) c.1.1 (m+1) s nU with
 | none=>
  rw[e1]at f;cases e2:ja (n+1) c.1.1 13 (cn (m+1) s) nU with
  | some _=>
   rw[e2]at f;exact f.elim
  | none=>
   have j:mi c (cn (m+1) s) (cn (k+1) t)=none:=by simp[mi,e2]
   rw[j];exact⟨Z e1,λz i=>by cases i⟩
 | some b=>
  rw[e1]at f;cases e2:ja (n+1) c.1.1 13 (cn (m+1) s) nU with
  | none=>
   rw[e2]at f;exact f.elim
  | some q=>
   rw[e2]at f;have r:=lO DQ ph (n+1) c.1.1 (m+1) s (Oo A T) nU b ⟨by simp[nU,oO],DT⟩ e1;obtain⟨o,X,aa,af⟩:=ae b e1;have p:aL eH (oO (nP b) o) b=true:=sY o b (λa d=>⟨sB (r.2 a d),A1 b a d⟩) X;have L:aL eH (oO (nP b) o) q=true:=pq eH eH eH _ _ _ (λH _ a I ak G=>bU H.1 H.2 a.1 a.2 I.1 I.2 ak G) p f;have g:=mY (n+1) c.1.2.1 (k+1) t (n+1) c.1.2.1 13 (cn (k+1) t) _ _ (fR _ _ (aW.2 (bS.1 S).1)) (dD _ _ _ _ (eF B)) L;cases e3:ja (n+1) c.1.2.1 (k+1) t (oO (nP b) o)with
   | none=>
    rw[e3]at g;cases e4:ja (n+1) c.1.2.1 13 (cn (k+1) t) q with
    | some _=>
     rw[e4]at g;exact g.elim
    | none=>
     have j:mi c (cn (m+1) s) (cn (k+1) t)=none:=by simp[mi,e2,e4]
     rw[j];exact⟨aa e3,λz i=>by cases i⟩
   | some h=>
    rw[e3]at g;cases e4:ja (n+1) c.1.2.1 13 (cn (k+1) t) q with
    | none=>
     rw[e4]at g;exact g.elim
    | some N=>
     rw[e4]at g;have j:mi c (cn (m+1) s) (cn (k+1) t)=some (N.map P3):=by simp[mi,e2,e4]
     rw[j];obtain⟨ai,aj,E,aw,l,ar,F⟩:=af h e3;refine⟨ai,λz i=>⟨aj,nP h,l,?_⟩⟩;cases i;have ab:=IR p r.2;have Y:(oO (nP b) o).length=4:=by rw[cV _ _ _ p];exact r.1
     have C:=lO DQ ph (n+1) c.1.2.1 (k+1) t (Oo B U) _ h ⟨Y,ab⟩ e3;have D:∀a∈h,aJ a:=λa d=>sB (C.2 a d);obtain⟨_,v,ag,_⟩:=Gh F D E;have W:=zo C.2 v E ag;obtain⟨_,_,au,al,am,x⟩:=F;rcases x with x|⟨O,bo,rfl,⟨av,rfl,ao,ap⟩,an,y⟩
     ·rw[x]at v;simp at v
     ·refine⟨O,rfl,W,?_,⟨by omega,al⟩,⟨by omega,an⟩,λu a d=>⟨?_,(y u a d).2.1,(cE.both (y u a d).2.2 (ap a (aR d))).mono λG ad=>⟨by omega,ad.2⟩⟩,ao⟩;rotate_left
      ·have:=(y u a d).1;rw[cw]at this;exact this
      have M:aL eH (oO (nP h) l) h=true:=sY l h (λa d=>⟨D a d,A1 h a d⟩) am;rw[<-Kp g,<-Kp M];simp[oO,P3]
theorem I3(c:Cl (n+1))(s:Tm (m+1))(t:Tm (k+1))(B:Nat)(w:ah)(i:iP (n+1) B w c)(j:In B w (m+1) s)(l:In B w (k+1) t)(h:B<=w.heap.size)(a:bJ (n+1) c.1.1=0)(b:bJ (n+1) c.1.2.1=0)(d:bJ (m+1) s=0)(e:aV (m+1) s=true)(f:bJ (k+1) t=0)(g:aV (k+1) t=true):au 177 #[.agg (fF (n+1) c).toArray,dE (m+1) s,dE (k+1) t] w (Ol c (cn (m+1) s) (cn (k+1) t) w):=
 (I1 n m k c s t B w i j l h a b d (by rw[<-fP];exact e) f (by rw[<-fP];exact g)).mono λ_ _ o=>KK c s t a b d e f g o
theorem mz:(N n:Nat)->n<=N->(x:Tm n)->aV N (bi N n x)=aV n x
 | 0,0,_,_=>rfl
 | _+1,0,_,_=>by simp[bi,aV]
 | 0,n+1,h,_=>by omega
 | N+1,n+1,h,x=>by
  have:(x.2.2.map λy=>bi N n y).all (λy=>aV N y)=x.2.2.all λy=>aV n y:=by
   rw[List.all_map];congr 1;funext y;exact mz N n (by omega) y
  simp only[aV,bi];rw[this]
theorem zw(m:Nat)(b:List (Tm m))(self:Int)(k:∀y∈b,cg ⟨m,y⟩=6\/aV m y=true):(n:Nat)->(x:Tm n)->aJ ⟨n,x⟩->(j:Tm (m+n))->vl m b self n x=some j->aV (m+n) j=true
 | 0,_,_,_,d=>by simp[vl]at d
 | n+1,x,hr,j,d=>by
  have p:=eW (bP n x) (hr (bP n x) (by simp[aF,bP]));by_cases g:x.1.1=6
  ·rw[Mr m b self n x g]at d;cases d
  ·by_cases f:x.1.1=5
   ·simp only[vl,f,cB]at d;obtain⟨y,h,d⟩:=cr.1 d;split at d
    ·cases d
    ·rename_i t;obtain rfl:=aG d;exact(mz (m+n+1) m (by omega) y).trans ((k y (aR h)).resolve_left t)
   ·by_cases e:x.1.1=4
    ·rw[Ms m b self n x e]at d;unfold xP at d;split at d
     ·obtain rfl:=aG d;simp[cv,aV]
     ·split at d
      ·obtain⟨a,q,d⟩:=cr.1 d;obtain⟨c,D,d⟩:=cr.1 d;obtain⟨A,C,d⟩:=cr.1 d;obtain⟨B,E,d⟩:=cr.1 d;unfold uP at d;split at d
       ·obtain rfl:=aG d;simp[cv,aV]
       ·cases d
      ·split at d
       ·obtain⟨a,q,d⟩:=cr.1 d;split at d
        ·rename_i r;obtain rfl:=aG d;exact(mz (m+n+1) n (by omega) a).trans r
        ·cases d
       ·obtain⟨l,u,rfl⟩:=cH.1 d;obtain⟨w,z⟩:=rT _ _ _ u;show aV (m+n+1) (dR (m+n) l)=true;simp only[aV,dR];simp only[aO,cX];refine⟨by decide,λy h=>?_⟩;obtain⟨i,o⟩:=dh h;have s:i<x.2.2.length:=by rw[<-w];exact(aZ.1 o).1
        exact zw m b self k n x.2.2[i] (br n x _ hr (gg _)) y (z i _ y (aS s) o)
    ·rw[GQ m b self n x e f g]at d;obtain rfl:=aG d;have v:x.2.2=[]:=bZ (p.2.2.2.2 e);refine(mz (m+n+1) (n+1) (by omega) x).trans ?_;simp[aV,f,g,v]
def gE(n:Nat)(name:aq):List (Bh n)->Option (Bh n)
 | []=>none
 | b::l=>if b.1=name then some b else gE n name l
def MU(n:Nat):Option (Bh n)->ax
 | none=>af none 0 0
 | some b=>af b.2.1.1 b.2.2.length b.2.1.2
theorem pE(n:Nat)(name:aq){l:List (Bh n)}{j:Nat}{b:Bh n}(c:l[j]?=some b):gE n name (l.drop j)=if b.1=name then some b else gE n name (l.drop (j+1)):=by
 obtain⟨d,a⟩:=aZ.1 c;rw[fo d,a];rfl
theorem vE(n:Nat)(name:aq)(l:List (Bh n))(r:aw)(D len B:Nat)(w:ah)(G:l.length=len)(H:len<=9223372036854775807)(z:B<=w.heap.size)(x:Hid (iV n B w r l)):au 154 #[af r len D,ag name] w λe w'=>e=.returned (MU n (gE n name l))/\ap w w':=by
 go_enter func154,ntmps154;go_wp2_with fail;go_loopw [9] (λq wr=>∃a:Nat,a<=len/\q=ae a/\Hid (ap w wr/\gE n name l=gE n name (l.drop a))) (λq _=>len-(intOf q).toNat)
 case atStart=>exact⟨0,by omega,rfl,aE _ _,rfl⟩
 case round=>
 obtain⟨a,F,rfl,c⟩:=hrel;by_cases I:a<len
 ·obtain⟨b,d⟩:∃b,l[a]?=some b:=⟨l[a]'(by omega),aS _⟩;obtain⟨k,lo,rfl,C,v⟩:∃g o,r=some ⟨g,o,none⟩/\g<B/\Hid (∀(t:Nat)(f:ax),(rJ n b)[t]?=some f->ai w g (o+a*2+t) f):=by
   rcases x with e|⟨g,o,e,A,y⟩
   ·rw[e]at d;simp at d
   ·exact⟨g,o,e,A,(y a _ d).1⟩
  have i:∀(t:Nat)(f:ax),(rJ n b)[t]?=some f->ai wr k (lo+a*2+t) f:=λt f u=>(c.1.cell (p:=⟨k,lo+a*2+t,none⟩) (aY C z)).trans (v t f u);have E:ai wr k (lo+a*2) (ag b.1):=i 0 _ rfl;have L:ai wr k (lo+a*2+1) (af b.2.1.1 b.2.2.length b.2.1.2):=i 1 _ rfl;have J:(0:Int)<=(a:Int):=by omega
  have K:(a:Int)<(len:Int):=by omega
  have s:Hid (∀o:Obj,ap w (wr.alloc o)):=λo=>c.1.alloc c.1.size o;by_cases j:b.1=name
  ·have h:Hid (gE n name l=some b):=by
     show _=_;rw[c.out.2,pE n name d,if_pos j]
   have m:Hid (MU n (gE n name l)=af b.2.1.1 b.2.2.length b.2.1.2):=by
    show _=_;rw[h.out];rfl
   rw[j]at E;clear i c h d;go_wp2_with fail
   go_ret
   rw[m.out];exact⟨rfl,s _⟩
  ·have h:Hid (gE n name l=gE n name (l.drop (a+1))):=by
     show _=_;rw[c.out.2,pE n name d,if_neg j]
   have u:(b.1.toList==name.toList)=false:=by
    rw[dK];intro e;rw[cC,cC]at e;exact j (ByteArray.ext (Array.ext' e))
   clear i c d;go_wp2_with fail;go_roundw
   case rel=>exact⟨a+1,by omega,by go_num,s _,h⟩
   case measure=>simp[intOf];omega
 ·obtain rfl:a=len:=by omega
  have m:Hid (MU n (gE n name l)=af none 0 0):=by
   show _=_;rw[c.out.2,p9 (by omega)];rfl
  have HB:=av c.1;clear c;go_wp2_with fail
  go_ret
  rw[m.out];exact⟨rfl,HB⟩
end Go.Proofs.YthjclakhibnamaaGreatDoor
