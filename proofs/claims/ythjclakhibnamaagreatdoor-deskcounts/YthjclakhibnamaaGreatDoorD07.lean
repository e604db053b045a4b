/- Proved here: plain facts and contracts. No condition but what each names. -/
import Derived.Test.YthjclakhibnamaaGreatDoorD06
namespace Go.Proofs.YthjclakhibnamaaGreatDoor
open Go.RowKit Go.Proofs.Tryz
set_option maxHeartbeats 4000000
set_option maxRecDepth 100000
def OA(n:Nat)(w:ah)(b o:Nat)(x:Ac (n+1)):Prop:=
 w.cell? ⟨b,o,none⟩=some (ae x.1)/\
 (w.cell? ⟨b,o+1,none⟩=some (ae x.2.1.1.1.1)/\w.cell? ⟨b,o+2,none⟩=some (ae x.2.1.1.1.2.1)/\w.cell? ⟨b,o+3,none⟩=some (af x.2.1.1.1.2.2)/\w.cell? ⟨b,o+4,none⟩=some (ag x.2.1.1.2.1.1 x.2.1.1.2.2.length x.2.1.1.2.1.2))/\
 (w.cell? ⟨b,o+5,none⟩=some (ae x.2.1.2.1.1)/\w.cell? ⟨b,o+6,none⟩=some (ae x.2.1.2.1.2.1)/\w.cell? ⟨b,o+7,none⟩=some (af x.2.1.2.1.2.2)/\w.cell? ⟨b,o+8,none⟩=some (ag x.2.1.2.2.1.1 x.2.1.2.2.2.length x.2.1.2.2.1.2))/\
 w.cell? ⟨b,o+9,none⟩=some (af x.2.2.1)/\w.cell? ⟨b,o+10,none⟩=some (ae x.2.2.2)
def OE(n:Nat)(w:ah)(b o:Nat)(x:Cl (n+1)):Prop:=
 (w.cell? ⟨b,o,none⟩=some (ae x.1.1.1.1)/\w.cell? ⟨b,o+1,none⟩=some (ae x.1.1.1.2.1)/\w.cell? ⟨b,o+2,none⟩=some (af x.1.1.1.2.2)/\w.cell? ⟨b,o+3,none⟩=some (ag x.1.1.2.1.1 x.1.1.2.2.length x.1.1.2.1.2))/\
 (w.cell? ⟨b,o+4,none⟩=some (ae x.1.2.1.1.1)/\w.cell? ⟨b,o+5,none⟩=some (ae x.1.2.1.1.2.1)/\w.cell? ⟨b,o+6,none⟩=some (af x.1.2.1.1.2.2)/\w.cell? ⟨b,o+7,none⟩=some (ag x.1.2.1.2.1.1 x.1.2.1.2.2.length x.1.2.1.2.1.2))/\
 w.cell? ⟨b,o+8,none⟩=some (ag x.2.1.1 x.2.2.length x.2.1.2)/\
 (w.cell? ⟨b,o+9,none⟩=some (ae x.1.2.2.1.1)/\w.cell? ⟨b,o+10,none⟩=some (ae x.1.2.2.1.2.1)/\w.cell? ⟨b,o+11,none⟩=some (af x.1.2.2.1.2.2)/\w.cell? ⟨b,o+12,none⟩=some (ag x.1.2.2.2.1.1 x.1.2.2.2.2.length x.1.2.2.2.1.2))
variable{K:Act->bF}{cs:Array az}{Q:Exit->Act->bF}{room:Int}{p q:List An}{e ps vs ws:List Wd}{d B L M N b base c g k m n r xc:Nat}{f h i o:Obj}{j:Type}{t:TypeId}{Mh:aW}{l W w w' w0 w1 w4 wr:ah}{a ma xa:ay}{u v v0 v1 v2 v3:az}{nm:bm}{xs:dH}
theorem Lay.ac{e:Ac (n+1)->Prop}{p:List (Ac (n+1))}(d:Lay B w 11 (gY (n+1)) e a p)(k:Nat)(x:Ac (n+1))(f:p[k]?=some x):∃b o,a=some ⟨b,o,none⟩/\b<B/\OA n w b (o+k*11) x/\e x:=by
 rcases d with d|⟨b,o,g,i,d⟩
 ·subst d;simp at f
 ·obtain⟨c,h⟩:=d k x f;exact⟨b,o,g,i,⟨c 0 _ rfl,⟨c 1 _ rfl,c 2 _ rfl,c 3 _ rfl,c 4 _ rfl⟩,⟨c 5 _ rfl,c 6 _ rfl,c 7 _ rfl,c 8 _ rfl⟩,c 9 _ rfl,c 10 _ rfl⟩,h⟩
theorem Lay.cl{e:Cl (n+1)->Prop}{p:List (Cl (n+1))}(d:Lay B w 13 (fG (n+1)) e a p)(k:Nat)(x:Cl (n+1))(f:p[k]?=some x):∃b o,a=some ⟨b,o,none⟩/\b<B/\OE n w b (o+k*13) x/\e x:=by
 rcases d with d|⟨b,o,g,i,d⟩
 ·subst d;simp at f
 ·obtain⟨c,h⟩:=d k x f;exact⟨b,o,g,i,⟨⟨c 0 _ rfl,c 1 _ rfl,c 2 _ rfl,c 3 _ rfl⟩,⟨c 4 _ rfl,c 5 _ rfl,c 6 _ rfl,c 7 _ rfl⟩,c 8 _ rfl,c 9 _ rfl,c 10 _ rfl,c 11 _ rfl,c 12 _ rfl⟩,h⟩
theorem Lay.bh{d:Bh (n+1)->Prop}{p:List (Bh (n+1))}(c:Lay B w 2 (rK (n+1)) d a p)(k:Nat)(x:Bh (n+1))(f:p[k]?=some x):∃b o,a=some ⟨b,o,none⟩/\b<B/\(ai w b (o+k*2) (af x.1)/\ai w b (o+k*2+1) (ag x.2.1.1 x.2.2.length x.2.1.2))/\d x:=by
 rcases c with c|⟨b,o,g,i,c⟩
 ·subst c;simp at f
 ·obtain⟨e,h⟩:=c k x f;exact⟨b,o,g,i,⟨e 0 _ rfl,e 1 _ rfl⟩,h⟩
theorem lj{b:Nat->ah->j->Prop}{c:(Nat->Prop)->j->Prop}(e:kH b c){f:j->List az}(g:Below B w w'){l:List j}(d:Lay B w k f (b B w) a l):Lay B w' k f (b B w') a l:=(da e k f a).below g d
theorem Br(n:Nat)(p:List (Ac (n+1)))(len:Nat)(r:Hid (p.length=len))(a:ay)(pc B:Nat)(w:ah)(u:Hid (Lay B w 11 (gY (n+1)) (jK (n+1) B w) a p))(C:len<=9223372036854775807)(s:B<=w.heap.size):au 147 #[ag a len pc] w λe w'=>e=aw (.bool (decide ((len:Int)<=8) && p.all (oO (n+1))))/\ap w w':=by
 by_cases x:(8:Int)<len
 ·have f:decide ((len:Int)<=8)=false:=by simp;omega
  rw[f];go_enter func147,ntmps147;go_wp2_with fail
  go_ret
  exact⟨rfl,aG _ _⟩
 have f:decide ((len:Int)<=8)=true:=by simp;omega
 rw[f,eT];clear f;go_enter func147,ntmps147;go_wp2_with fail;go_loopw [10] (λj wr=>∃k:Nat,k<=len/\j=ae k/\ap w wr/\Hid ((p.drop k).all (oO (n+1))=p.all (oO (n+1)))) (λj _=>len-(intOf j).toNat)
 case atStart=>exact⟨0,by omega,rfl,aG _ _,rfl⟩
 case round=>
  obtain⟨k,y,rfl,d,h⟩:=hrel;by_cases t:k<len
  ·obtain⟨b,i⟩:∃b,p[k]?=some b:=⟨p[k]'(by rw[r.out];exact t),aU _⟩;have l:=av (rV (oO (n+1)) p k b i);obtain⟨E,po,rfl,D,⟨F,⟨G,I,J,K⟩,⟨L,M,N,O⟩,P,H⟩,q⟩:=(lj (fV (n+1)) (d.mono s) u).ac k b i;have g:=λc=>av (Ip n b c q.2.2.2.1);replace g:Hid (∀c,au 173 #[.agg #[ae b.1,ae b.2.1.1.1.1,ae b.2.1.1.1.2.1,af b.2.1.1.1.2.2,ag b.2.1.1.2.1.1 b.2.1.1.2.2.length b.2.1.1.2.1.2,ae b.2.1.2.1.1,ae b.2.1.2.1.2.1,af b.2.1.2.1.2.2,ag b.2.1.2.2.1.1 b.2.1.2.2.2.length b.2.1.2.2.1.2,af b.2.2.1,ae b.2.2.2]] c λe w'=>e=aw (.bool (oO (n+1) b))/\ap c w'):=λc=>(g c);clear q i;generalize oO (n+1) b=v at*;have z:(0:Int)<=(k:Int):=by omega
   have A:(k:Int)<(len:Int):=by omega
   go_wp2_with fail;refine(g _).mono ?_;rintro e c ⟨rfl,m⟩;have o:ap w c:=(d.trans ((aV _ _).mono d.size)).trans (m.mono (by have:=d.size;simp;omega));clear m;cases v with
   | true=>
    go_wp2_with fail;go_roundw
    case rel=>exact⟨k+1,by omega,by go_num,o,by rw[<-h.out,l.out];rfl⟩
    case measure=>simp[intOf];omega
   | false=>
    go_wp2_with fail
    go_ret
    exact⟨bZ (by rw[<-h.out,l.out];rfl),o⟩
  ·go_wp2_with fail
   go_ret
   refine⟨bZ ?_,d⟩;rw[<-h.out,km (by rw[r.out];omega)];rfl
theorem vx(n:Nat)(p:List (Cl (n+1)))(len:Nat)(s:Hid (p.length=len))(a:ay)(pc B:Nat)(w:ah)(y:Hid (Lay B w 13 (fG (n+1)) (iQ (n+1) B w) a p))(G:len<=9223372036854775807)(m:B<=w.heap.size):au 120 #[ag a len pc] w λe w'=>e=aw (.bool (decide (1<=(len:Int)) && decide ((len:Int)<=6) && p.all (vD (n+1))))/\ap w w':=by
 by_cases A:(len:Int)<1
 ·have v:decide (1<=(len:Int))=false:=by simp;omega
  rw[v];go_enter func120,ntmps120;go_wp2_with fail
  go_ret
  exact⟨rfl,aG _ _⟩
 by_cases C:(6:Int)<len
 ·have f:decide ((len:Int)<=6)=false:=by simp;omega
  rw[f];go_enter func120,ntmps120;go_wp2_with fail
  go_ret
  exact⟨bZ (by simp),aG _ _⟩
 have f:(decide (1<=(len:Int)) && decide ((len:Int)<=6))=true:=by simp;omega
 rw[f,eT];clear f;go_enter func120,ntmps120;go_wp2_with fail;go_loopw [15] (λj wr=>∃k:Nat,k<=len/\j=ae k/\ap w wr/\Hid ((p.drop k).all (vD (n+1))=p.all (vD (n+1)))) (λj _=>len-(intOf j).toNat)
 case atStart=>exact⟨0,by omega,rfl,aG _ _,rfl⟩
 case round=>
  obtain⟨k,D,rfl,d,g⟩:=hrel;by_cases x:k<len
  ·obtain⟨b,i⟩:∃b,p[k]?=some b:=⟨p[k]'(by rw[s.out];exact x),aU _⟩;have l:=av (rV (vD (n+1)) p k b i);obtain⟨I,po,rfl,H,⟨⟨J,K,O,P⟩,⟨Q,R,S,T⟩,U,V,L,M,N⟩,h⟩:=(lj (eM (n+1)) (d.mono m) y).cl k b i;have o:B<=wr.heap.size:=aF m d.size
   have u:Hid (∀c,ap wr c->au 147 #[ag b.2.1.1 b.2.2.length b.2.1.2] c λe w'=>e=aw (.bool (vD (n+1) b))/\ap c w'):=
    λc t=>Br n b.2.2 b.2.2.length rfl b.2.1.1 b.2.1.2 B c (lj (fV (n+1)) (t.mono o) h.2.2) (by have:=h.2.1;unfold maxLen at this;omega) (aF o t.size)
   clear h i;generalize vD (n+1) b=z at*;have E:(0:Int)<=(k:Int):=by omega
   have F:(k:Int)<(len:Int):=by omega
   go_wp2_with fail;refine(u _ (aV _ _)).mono ?_;rintro e c ⟨rfl,q⟩;have r:ap w c:=(d.trans ((aV _ _).mono d.size)).trans (q.mono (by have:=d.size;simp;omega));clear q;cases z with
   | true=>
    go_wp2_with fail;go_roundw
    case rel=>exact⟨k+1,by omega,by go_num,r,by rw[<-g.out,l.out];rfl⟩
    case measure=>simp[intOf];omega
   | false=>
    go_wp2_with fail
    go_ret
    exact⟨bZ (by rw[<-g.out,l.out];rfl),r⟩
  ·go_wp2_with fail
   go_ret
   refine⟨bZ ?_,d⟩;rw[<-g.out,km (by rw[s.out];omega)];rfl
theorem OY(n:Nat)(x:Bh n):xY n x=(ei x.1 && (decide (1<=(x.2.2.length:Int)) && decide ((x.2.2.length:Int)<=6) && x.2.2.all (vD n))):=by
 simp only[xY,Bool.and_assoc]
theorem qz(n:Nat)(p:List (Bh (n+1)))(len:Nat)(l:Hid (p.length=len))(a:ay)(pc B:Nat)(w:ah)(D:Hid (iW (n+1) B w a p))(M:len<=9223372036854775807)(s:B<=w.heap.size):au 81 #[ag a len pc] w λe w'=>e=aw (.bool (lk (n+1) p))/\ap w w':=by
 have r:Hid (lk (n+1) p=(decide (1<=(len:Int)) && decide ((len:Int)<=7) && p.all (xY (n+1)))):=by
  show lk (n+1) p=_;rw[<-l.out];rfl
 rw[r.out];by_cases H:(len:Int)<1
 ·have A:decide (1<=(len:Int))=false:=by simp;omega
  rw[A];go_enter func81,ntmps81;go_wp2_with fail
  go_ret
  exact⟨rfl,aG _ _⟩
 by_cases I:(7:Int)<len
 ·have f:decide ((len:Int)<=7)=false:=by simp;omega
  rw[f];go_enter func81,ntmps81;go_wp2_with fail
  go_ret
  exact⟨bZ (by simp),aG _ _⟩
 have f:(decide (1<=(len:Int)) && decide ((len:Int)<=7))=true:=by simp;omega
 rw[f,eT];clear f r;go_enter func81,ntmps81;go_wp2_with fail;go_loopw [15] (λo wr=>∃k:Nat,k<=len/\o=ae k/\ap w wr/\Hid ((p.drop k).all (xY (n+1))=p.all (xY (n+1)))) (λo _=>len-(intOf o).toNat)
 case atStart=>exact⟨0,by omega,rfl,aG _ _,rfl⟩
 case round=>
  obtain⟨k,J,rfl,d,g⟩:=hrel;by_cases C:k<len
  ·obtain⟨b,m⟩:∃b,p[k]?=some b:=⟨p[k]'(by rw[l.out];exact C),aU _⟩;have j:=av (rV (xY (n+1)) p k b m);obtain⟨O,po,rfl,N,⟨Q,R⟩,h⟩:=(iW.below (d.mono s) D).bh k b m;have t:B<=wr.heap.size:=aF s d.size;have E:b.1.size<=9223372036854775807:=by have:=h.1;unfold maxLen at this;omega
   have z:Hid (∀c,ap wr c->au 120 #[ag b.2.1.1 b.2.2.length b.2.1.2] c λe w'=>e=aw (.bool (decide (1<=(b.2.2.length:Int)) && decide ((b.2.2.length:Int)<=6) && b.2.2.all (vD (n+1))))/\ap c w'):=
    λc y=>vx n b.2.2 b.2.2.length rfl b.2.1.1 b.2.1.2 B c (lj (eM (n+1)) (y.mono t) h.2.2) (by have:=h.2.1;unfold maxLen at this;omega) (aF t y.size)
   have i:=av (OY (n+1) b);clear h m;generalize (decide (1<=(b.2.2.length:Int)) && decide ((b.2.2.length:Int)<=6) && b.2.2.all (vD (n+1)))=F at*;have K:(0:Int)<=(k:Int):=by omega
   have L:(k:Int)<(len:Int):=by omega
   have q:=λc=>av (je b.1 c E);generalize ei b.1=G at*;generalize xY (n+1) b=P at*;have u:ap w (wr.alloc (.cells #[af b.1,ag b.2.1.1 b.2.2.length b.2.1.2] 176)):=d.trans ((aV _ _).mono d.size);cases G with
   | false=>
    go_wp2_with (go_at_call 115;refine(q _).mono ?_;rintro e w' ⟨rfl,rfl⟩)
    go_ret
    exact⟨bZ (by rw[<-g.out,j.out,i.out];rfl),u⟩
   | true=>
    go_wp2_with (first|(go_at_call 115;refine(q _).mono ?_;rintro e w' ⟨rfl,rfl⟩)|(go_at_call 120;refine(z _ (aV _ _)).mono ?_;rintro e c ⟨rfl,v⟩;have x:ap w c:=u.trans (v.mono (by have:=d.size;simp;omega));clear v;cases F))
    ·go_ret
     exact⟨bZ (by rw[<-g.out,j.out,i.out];rfl),x⟩
    ·go_roundw
     case rel=>exact⟨k+1,by omega,by go_num,x,by rw[<-g.out,j.out,i.out];rfl⟩
     case measure=>simp[intOf];omega
  ·go_wp2_with fail
   go_ret
   refine⟨bZ ?_,d⟩;rw[<-g.out,km (by rw[l.out];omega)];rfl
theorem iY(s:aq)(w:ah):au 148 #[af s] w λe w'=>e=aw (.agg #[ae 2,ae 0,af s,ag none 0 0])/\w'=w.alloc (.cells #[ae 2,ae 0,af s,ag none 0 0] 54):=by
 go_enter func148,ntmps148;go_wp2_with fail;exact aD (v:=.agg #[ae 2,ae 0,af s,ag none 0 0]) (by simp[results,results148,go_sem]) rfl ⟨rfl,rfl⟩
theorem fX(a:ay)(l c:Nat)(w:ah):au 150 #[ag a l c] w λe w'=>e=aw (.agg #[ae 4,ae 0,af ⟨#[]⟩,ag a l c])/\w'=w.alloc (.cells #[ae 4,ae 0,af ⟨#[]⟩,ag a l c] 54):=by
 go_enter func150,ntmps150;go_wp2_with fail;exact aD (v:=.agg #[ae 4,ae 0,af ⟨#[]⟩,ag a l c]) (by simp[results,results150,go_sem]) rfl ⟨rfl,rfl⟩
def iU(B N:Nat)(c:Tm N)(w:ah)(e:Ending)(w':ah):Prop:=
 ∃a:Tm N,e=aw (dF N a)/\Hid (ap w w'/\In w'.heap.size w' N a/\cF (λb=>b<B\/w.heap.size<=b) N a/\aJ N a N c=true)
abbrev eH(n B base:Nat)(xs:List (Tm n))(v:az)(w0 wr:ah):Prop:=fD (λB w x=>In B w n x) (λP x=>cF P n x) (kY n) 4 54 B base xs v w0 wr
theorem pY(n:Nat)(x:Tm n):(kY n x).length=4:=rfl
theorem iA(s:aq)(N:Nat)(a:s.size<=maxLen)(B:Nat)(w:ah):In B w (N+1) (bP s N):=⟨⟨by simp[bP,dn],by simp[bP,dn],a,by simp[bP],by simp[bP]⟩,ak rfl⟩
theorem Lb(k a:Int)(N:Nat)(b:dn k)(c:dn a)(B:Nat)(w:ah):In B w (N+1) (cw k a N):=⟨⟨b,c,aM _,by simp[cw],by simp[cw]⟩,ak rfl⟩
theorem pE(s:aq)(N:Nat)(P:aW):cF P (N+1) (bP s N):=ak rfl
theorem Gn{o:Nat}{x:Tm n}(d:In B w0 n x)(a:∀(j:Nat)(c:az),(kY n x)[j]?=some c->w.cell? ⟨b,o+j,none⟩=some c):eg w b o n x:=by
 cases n with
 | zero=>exact d.elim
 | succ n=>exact⟨a 0 _ rfl,a 1 _ rfl,a 2 _ rfl,a 3 _ rfl⟩
theorem eH.tells{xs ys:List (Tm N)}(p:eH N B base xs v w0 wr)(x:w.heap.size<=base)(s:aN (λa b=>aJ N a N b) xs ys=true)(u:∀b,b<B\/base<=b->b<wr.heap.size->w'.heap[b]?=wr.heap[b]?)(t:wr.heap.size<=w'.heap.size)(g:ap w w'):∃a c,v=ag a xs.length c/\iU B (N+1) (dS N ys) w (aw (.agg #[ae 4,ae 0,af ⟨#[]⟩,ag a xs.length c])) w':=by
 have j:=eD N;obtain⟨a,c,f,m,n,e⟩:=p.lay j (pY N);refine⟨a,c,f,((4,0,.empty),(a,c),xs),rfl,g,⟨⟨by simp[dn],by simp[dn],aM _,m.1,m.2⟩,?_⟩,?_,dC rfl s⟩
 ·have q:=(da j 4 (kY N) a).2.1 _ _ _ _ e n;have r:=(da j 4 (kY N) a).2.2.1 _ _ wr w' _ (λb l=>u b l.1 l.2) q n;have d:=(da j 4 (kY N) a).2.2.2.1 _ _ _ _ t r;rcases d with d|⟨b,o,f,g,d⟩
  ·exact ak d
  ·exact am ⟨b,o,f,g,λk i h=>⟨Gn (d k i h).2 (d k i h).1,(d k i h).2⟩⟩
 ·rcases e with e|⟨b,o,f,g,e⟩
  ·exact ak e
  ·exact am ⟨b,o,f,by omega,λk i h=>(e i (aT h)).mono λb g=>by omega⟩
theorem pW(xs:List (Tm N))(a:ap w w1)(r:g=w1.heap.size)(p:L=xs.length)(e:Below (w1.alloc (.cells cs 54)).heap.size (w1.alloc (.cells cs 54)) w')(q:cs.toList=xs.flatMap (kY N))(u:xs.length<=8)(i:B<=w.heap.size)(f:∀y∈xs,In B w N y):iU B (N+1) (dS N xs) w (aw (.agg #[ae 4,ae 0,af ⟨#[]⟩,ag (some ⟨g,0,none⟩) L L])) w':=by
 have o:=fD.lit (T:=54) (k:=4) (B:=B) (base:=w1.heap.size) (eD N) xs (w0:=w1) q (pY N) (by unfold maxLen;omega) (aA _) (aG _ _) (λy d=>⟨((f y d).below (a.mono i)).mono (aF i a.size),(pN (f y d)).mono λb h=>ak h⟩);have j:ap w (w1.alloc (.cells cs 54)):=a.trans ((aV _ _).mono a.size);obtain⟨s,c,l,k⟩:=eH.tells o a.size (jq _ _ λy d=>mz (f y d)) (λb _ h=>e.block b h) e.size (j.trans (e.mono j.size));injection l with m t n;subst m n p r;exact k
theorem ip:ap w (((w.alloc f).alloc h).alloc i)/\w.heap.size+1+1+1=(((w.alloc f).alloc h).alloc i).heap.size:=
 ⟨((aV _ _).alloc (by simp) _).alloc (by simp;omega) _,by simp⟩
theorem ui{a:Obj}:ap w ((((w.alloc f).alloc h).alloc i).alloc a)/\w.heap.size+1+1+1+1=((((w.alloc f).alloc h).alloc i).alloc a).heap.size:=
 ⟨(((aV _ _).alloc (by simp) _).alloc (by simp;omega) _).alloc (by simp;omega) _,by simp⟩
theorem wQ:ap w (w.alloc o).drew:=(aV _ _).drew
theorem aZ:ap w (w.alloc o):=aV _ _
theorem oA(s:aq)(a:s.size<=8):s.size<=maxLen:=by unfold maxLen;omega
theorem AY(n:Nat)(t x:Tm (n+1))(s:aq)(v:Int)(B:Nat)(w:ah)(b:In B w (n+1) t)(c:In B w (n+1) x)(h:B<=w.heap.size):au 201 #[.agg #[ae 1,ae t.1.1,ae t.1.2.1,af t.1.2.2,ag t.2.1.1 t.2.2.length t.2.1.2,ae x.1.1,ae x.1.2.1,af x.1.2.2,ag x.2.1.1 x.2.2.length x.2.1.2,af s,ae v]] w (iU B (n+2) (dS (n+1) [bP oL n,t,x]) w):=by
 have f:Hid (∀e∈[bP oL n,t,x],In B w (n+1) e):=λe d=>by
  simp only[cq,gi,gn]at d;rcases d with rfl|rfl|rfl
  ·exact iA _ _ (oA _ (by decide)) _ _
  ·exact b
  ·exact c
 clear b c;go_enter func201,ntmps201;go_wp2_with fail
 go_region_held3 (λa=>(a.cell? ⟨w.heap.size,1,none⟩=some (ae t.1.1)/\a.cell? ⟨w.heap.size,2,none⟩=some (ae t.1.2.1)/\a.cell? ⟨w.heap.size,3,none⟩=some (af t.1.2.2)/\a.cell? ⟨w.heap.size,4,none⟩=some (ag t.2.1.1 t.2.2.length t.2.1.2))/\
     (a.cell? ⟨w.heap.size,5,none⟩=some (ae x.1.1)/\a.cell? ⟨w.heap.size,6,none⟩=some (ae x.1.2.1)/\a.cell? ⟨w.heap.size,7,none⟩=some (af x.1.2.2)/\a.cell? ⟨w.heap.size,8,none⟩=some (ag x.2.1.1 x.2.2.length x.2.1.2))) (first|(go_keep;done)|(simp[go_sem];done))
  ((first|(go_at_call 148;refine(iY _ _).mono ?_;rintro g i ⟨rfl,rfl⟩)|(go_at_call 150;refine(fX _ _ _ _).mono ?_;rintro g i ⟨rfl,rfl⟩)))
 go_wp2_with fail;exact aD (v:=.agg #[ae 4,ae 0,af ⟨#[]⟩,ag (some ⟨w.heap.size+1+1+1,0,none⟩) 3 3]) (by simp[results,results201,go_sem]) rfl (pW [bP oL n,t,x] ip.1 ip.2 rfl wQ rfl (by simp) h f)
theorem AX(n:Nat)(t x:Tm (n+1))(s:aq)(v:Int)(B:Nat)(w:ah)(b:In B w (n+1) t)(g:B<=w.heap.size):au 201 #[.agg #[ae 3,ae t.1.1,ae t.1.2.1,af t.1.2.2,ag t.2.1.1 t.2.2.length t.2.1.2,ae x.1.1,ae x.1.2.1,af x.1.2.2,ag x.2.1.1 x.2.2.length x.2.1.2,af s,ae v]] w (iU B (n+2) (dS (n+1) [bP oK n,t]) w):=by
 have e:Hid (∀d∈[bP oK n,t],In B w (n+1) d):=λd c=>by
  simp only[cq,gi,gn]at c;rcases c with rfl|rfl
  ·exact iA _ _ (oA _ (by decide)) _ _
  ·exact b
 clear b;go_enter func201,ntmps201;go_wp2_with fail
 go_region_held3 (λa=>a.cell? ⟨w.heap.size,1,none⟩=some (ae t.1.1)/\a.cell? ⟨w.heap.size,2,none⟩=some (ae t.1.2.1)/\a.cell? ⟨w.heap.size,3,none⟩=some (af t.1.2.2)/\a.cell? ⟨w.heap.size,4,none⟩=some (ag t.2.1.1 t.2.2.length t.2.1.2)) (first|(go_keep;done)|(simp[go_sem];done))
  ((first|(go_at_call 148;refine(iY _ _).mono ?_;rintro f h ⟨rfl,rfl⟩)|(go_at_call 150;refine(fX _ _ _ _).mono ?_;rintro f h ⟨rfl,rfl⟩)))
 go_wp2_with fail;exact aD (v:=.agg #[ae 4,ae 0,af ⟨#[]⟩,ag (some ⟨w.heap.size+1+1+1,0,none⟩) 2 2]) (by simp[results,results201,go_sem]) rfl (pW [bP oK n,t] ip.1 ip.2 rfl wQ rfl (by simp) g e)
theorem AZ(n:Nat)(K:Int)(g:(K==1)=false)(h:(K==2)=false)(i:(K==3)=false)(t x:Tm (n+1))(s:aq)(v:Int)(B:Nat)(w:ah)(e:B<=w.heap.size):au 201 #[.agg #[ae K,ae t.1.1,ae t.1.2.1,af t.1.2.2,ag t.2.1.1 t.2.2.length t.2.1.2,ae x.1.1,ae x.1.2.1,af x.1.2.2,ag x.2.1.1 x.2.2.length x.2.1.2,af s,ae v]] w (iU B (n+2) (dS (n+1) [bP oM n]) w):=by
 have c:Hid (∀b∈[bP oM n],In B w (n+1) b):=λb a=>by
  simp only[cq,gi,gn]at a;subst a;exact iA _ _ (oA _ (by decide)) _ _
 go_enter func201,ntmps201;go_wp2_with (first|(go_at_call 148;refine(iY _ _).mono ?_;rintro d f ⟨rfl,rfl⟩)|(go_at_call 150;refine(fX _ _ _ _).mono ?_;rintro d f ⟨rfl,rfl⟩));exact aD (v:=.agg #[ae 4,ae 0,af ⟨#[]⟩,ag (some ⟨w.heap.size+1+1+1,0,none⟩) 1 1]) (by simp[results,results201,go_sem]) rfl (pW [bP oM n] ip.1 ip.2 rfl aZ rfl (by simp) e c)
theorem xP(n:Nat)(t x:Tm (n+1))(s:aq)(v:Int)(c:dn v)(b:s.size<=maxLen)(B:Nat)(w:ah)(d:In B w (n+1) x)(i:B<=w.heap.size):au 201 #[.agg #[ae 2,ae t.1.1,ae t.1.2.1,af t.1.2.2,ag t.2.1.1 t.2.2.length t.2.1.2,ae x.1.1,ae x.1.2.1,af x.1.2.2,ag x.2.1.1 x.2.2.length x.2.1.2,af s,ae v]] w (iU B (n+2) (dS (n+1) [bP kC n,bP s n,x,cw 5 v n]) w):=by
 have g:Hid (∀f∈[bP kC n,bP s n,x,cw 5 v n],In B w (n+1) f):=λf e=>by
  simp only[cq,gi,gn]at e;rcases e with rfl|rfl|rfl|rfl
  ·exact iA _ _ (oA _ (by decide)) _ _
  ·exact iA _ _ b _ _
  ·exact d
  ·exact Lb _ _ _ (by simp[dn]) c _ _
 clear d b c;go_enter func201,ntmps201;go_wp2_with fail
 go_region_held3 (λa=>(a.cell? ⟨w.heap.size,9,none⟩=some (af s)/\a.cell? ⟨w.heap.size,10,none⟩=some (ae v))/\
     (a.cell? ⟨w.heap.size,5,none⟩=some (ae x.1.1)/\a.cell? ⟨w.heap.size,6,none⟩=some (ae x.1.2.1)/\a.cell? ⟨w.heap.size,7,none⟩=some (af x.1.2.2)/\a.cell? ⟨w.heap.size,8,none⟩=some (ag x.2.1.1 x.2.2.length x.2.1.2))) (first|(go_keep;done)|(simp[go_sem];done))
  ((first|(go_at_call 148;refine(iY _ _).mono ?_;rintro h j ⟨rfl,rfl⟩)|(go_at_call 150;refine(fX _ _ _ _).mono ?_;rintro h j ⟨rfl,rfl⟩)))
 all_goals go_wp2_with fail
 all_goals exact aD (v:=.agg #[ae 4,ae 0,af ⟨#[]⟩,ag (some ⟨w.heap.size+1+1+1+1,0,none⟩) 4 4]) (by simp[results,results201,go_sem]) rfl (pW [bP kC n,bP s n,x,cw 5 v n] ui.1 ui.2 rfl wQ rfl (by simp) i g)
theorem Du(n:Nat)(a:Ac (n+1))(B:Nat)(w:ah)(o:jK (n+1) B w a)(c:B<=w.heap.size):au 201 #[.agg (gY (n+1) a).toArray] w (iU B (n+2) (cO n a) w):=by
 obtain⟨b,⟨t,f⟩,d,e⟩:=a;obtain⟨p,j,k,l,m⟩:=o;unfold cO;by_cases g:b=1
 ·subst g;exact AY n t f d e B w j k c
 by_cases h:b=2
 ·subst h;exact xP n t f d e m l B w k c
 by_cases i:b=3
 ·subst i;exact AX n t f d e B w j c
 ·simp only[g,h,i,if_false];exact AZ n b (by simpa using g) (by simpa using h) (by simpa using i) t f d e B w c
theorem FF(xs ys:List (Tm N))(m:base<=w1.heap.size)(p:g=w1.heap.size)(i:L=xs.length)(n:w.heap.size<=base)(s:∀b,b<B\/base<=b->b<(w1.alloc (.cells cs 54)).heap.size->w'.heap[b]?=(w1.alloc (.cells cs 54)).heap[b]?)(r:(w1.alloc (.cells cs 54)).heap.size<=w'.heap.size)(l:ap w w')(o:cs.toList=xs.flatMap (kY N))(u:xs.length<=8)(j:∀y∈xs,In w1.heap.size w1 N y/\cF (λb=>b<B\/base<=b) N y)(q:aN (λa b=>aJ N a N b) xs ys=true):iU B (N+1) (dS N ys) w (aw (.agg #[ae 4,ae 0,af ⟨#[]⟩,ag (some ⟨g,0,none⟩) L L])) w':=by
 have h:=fD.lit (T:=54) (k:=4) (B:=B) (base:=base) (eD N) xs (w0:=w1) o (pY N) (by unfold maxLen;omega) m (aG _ _) j;obtain⟨a,c,d,k⟩:=eH.tells h n q s r l;injection d with e t f;subst e f i p;exact k
theorem eH.slice{xs:List (Tm N)}(b:eH N B base xs v w0 wr):∃a c,v=ag a xs.length c:=by
 rcases b.2.1.2 with⟨rfl,d⟩|⟨f,cap,e,rfl,_⟩
 ·exact⟨none,0,by rw[d]⟩
 ·exact⟨_,_,rfl⟩
theorem vi(N:Nat)(x:Tm N):∀b∈kY N x,b.oneCell'=true:=by
 intro b a;simp[kY,wL]at a;rcases a with rfl|rfl|rfl|rfl<;>rfl
theorem A0(w:ah)(x:Nd)(d:g=w.heap.size):∀j b,(wL x)[j]?=some b->(w.alloc (.cells #[ae x.1.1,ae x.1.2.1,af x.1.2.2,ag x.2.1 x.2.2.1 x.2.2.2] 54)).cell? ((⟨g,0,none⟩:Addr).add j)=some b:=by
 subst d;intro j b a;rw[fE];have:j<4:=(bi.1 a).1;have c:j=0\/j=1\/j=2\/j=3:=by omega
 rcases c with rfl|rfl|rfl|rfl<;>simp[wL]at a<;>subst a<;>simp[go_sem]
theorem eH.app{xs:List (Tm N)}(f:eH N B base xs v w0 wr)(q:xs.length=k)(h:B<=base)(n:base<=wr.heap.size)(e:ap wr l)(a:Tm N)(j:In l.heap.size l N a)(i:cF (λb=>b<B\/wr.heap.size<=b) N a)(r:w4.ownsRow base 54 4 (ag (some ⟨g,0,none⟩) (k+1) c) (k+1) (xs.flatMap (kY N)++kY N a))(p:(l.alloc o).grownBy w4 v.ownBlock)(m:v.ownBlock=some g\/g=l.heap.size+1):eH N B base (xs++ [a]) (ag (some ⟨g,0,none⟩) (k+1) c) w0 w4:=by
 subst q;have d:ap l (l.alloc o):=aV _ _;exact fD.step (eD N) f h n (e.trans (d.mono e.size)) a ((j.below d).mono d.size) i r p (by simpa using m)
theorem eH.own{xs:List (Tm N)}(b:eH N B base xs v w0 wr)(c:xs.length=k)(a:ap wr l)(o:Obj):(l.alloc o).ownsRow base 54 4 v k (xs.flatMap (kY N)):=by
 subst c;exact dU b.2.1 (a.trans ((aV _ _).mono a.size))
theorem gZ(w:ah)(o:Obj)(a:b<w.heap.size):(w.alloc o).heap[b]?=w.heap[b]? :=(dB w o none).block b a (by simp)
theorem aC{q:Nat}(a:w.heap[q]?=some (.cells cs t))(j:Nat):w.cell? ⟨q,j,none⟩=cs[j]? :=by simp[World.cell?,a]
theorem dr{q:Nat}(a:w.heap[q]?=some (.cells cs t))(j:Nat):w.frozen? ⟨q,j,none⟩=false:=by simp[World.frozen?,a]
theorem kZ(w:ah)(a c:Obj):((w.alloc a).alloc c).heap[w.heap.size]?=some a/\((w.alloc a).alloc c).heap[w.heap.size+1]?=some c:=by
 have f:=(gZ (w.alloc a) c (b:=w.heap.size) (by simp)).trans (aK w a);have d:=aK (w.alloc a) c;have e:(w.alloc a).heap.size=w.heap.size+1:=by simp
 rw[e]at d;exact⟨f,d⟩
theorem AG{o:Nat}(d:B<=r)(e:r<base)(a:ap W w):∀b,b<B\/base<=b->b<W.heap.size->(dk w r o v0 v1 v2 v3).heap[b]?=W.heap[b]? :=λb f c=>(bw (by omega) _ _ _ _).trans (a.block b c)
theorem dV{o:Nat}(a:ap w W)(d:w.heap.size<=r):ap w (dk W r o v0 v1 v2 v3):=
 ⟨a.os,a.tape,a.output,aF a.size (cR (bJ _ _ _ _).symm),λb c=>(bw (by omega) _ _ _ _).trans (a.block b c)⟩
theorem eH.tup{xs:List (Tm N)}{l:ay}(q:eH N B base xs (ag l k d) w0 wr):In wr.heap.size wr (N+1) ((4,0,.empty),(l,d),xs)/\cF (λb=>b<B\/base<=b) (N+1) ((4,0,.empty),(l,d),xs):=by
 obtain⟨s,c,a,m,r,f⟩:=q.lay (eD N) (pY N);injection a with n t p;subst n p;refine⟨⟨⟨by simp[dn],by simp[dn],aM _,m.1,m.2⟩,?_⟩,?_⟩
 ·rcases r with e|⟨b,o,a,j,e⟩
  ·exact ak e
  ·exact am ⟨b,o,a,j,λi h g=>⟨Gn (e i h g).2 (e i h g).1,(e i h g).2⟩⟩
 ·rcases f with f|⟨b,o,a,j,f⟩
  ·exact ak f
  ·exact am ⟨b,o,a,j,λi h g=>f h (aT g)⟩
theorem zR{s m x:Tm (n+1)}{c:Tm (n+3)}{ys:List (Tm (n+2))}(k:B<=w.heap.size)(p:In B w (n+1) s)(o:In B w (n+1) m)(q:In B w (n+1) x)(l:ap w wr)(j:In wr.heap.size wr (n+3) c/\cF (λb=>b<B\/base<=b) (n+3) c)(u:aJ (n+3) c (n+3) (dS (n+2) ys)=true)(g:ap wr w1):(∀y∈[bP Oc (n+2),bj (n+3) (n+1) s,bj (n+3) (n+1) m,c,bj (n+3) (n+1) x],In w1.heap.size w1 (n+3) y/\cF (λb=>b<B\/base<=b) (n+3) y)/\ aN (λa b=>aJ (n+3) a (n+3) b) [bP Oc (n+2),bj (n+3) (n+1) s,bj (n+3) (n+1) m,c,bj (n+3) (n+1) x] [bP Oc (n+2),bj (n+3) (n+1) s,bj (n+3) (n+1) m,dS (n+2) ys,bj (n+3) (n+1) x]=true:=by
 have e:∀t:Tm (n+1),In B w (n+1) t->In w1.heap.size w1 (n+3) (bj (n+3) (n+1) t)/\cF (λb=>b<B\/base<=b) (n+3) (bj (n+3) (n+1) t):=λt h=>by
  have i:=pP (n+3) (n+1) (by omega) t B w h;have d:=l.trans (g.mono l.size);exact⟨(i.below (d.mono k)).mono (aF k d.size),(pN i).mono λb d=>ak d⟩
 have f:∀t:Tm (n+1),In B w (n+1) t->aJ (n+3) (bj (n+3) (n+1) t) (n+3) (bj (n+3) (n+1) t)=true:=λt h=>mz (pP (n+3) (n+1) (by omega) t B w h);refine⟨λy r=>?_,by simp only[aN,f s p,f m o,f x q,u,ey,iK]⟩;simp only[cq,gi,gn]at r;rcases r with rfl|rfl|rfl|rfl|rfl
 ·exact⟨iA _ _ (oA _ (by decide)) _ _,pE _ _ _⟩
 ·exact e s p
 ·exact e m o
 ·exact⟨(j.1.below g).mono g.size,j.2⟩
 ·exact e x q
theorem gO(N n:Nat)(x:Tm (n+1)):kY (N+1) (bj (N+1) (n+1) x)=kY (n+1) x:=by
 unfold kY;rw[Nx]
theorem zQ(n:Nat)(s m x:Tm (n+1))(a:ay)(b k:Nat)(xs:List (Tm (n+2)))(c:xs.length=k):[ae 2,ae 0,af ⟨#[111,110]⟩,ag none 0 0,ae s.1.1,ae s.1.2.1,af s.1.2.2,ag s.2.1.1 s.2.2.length s.2.1.2,ae m.1.1,ae m.1.2.1,af m.1.2.2,ag m.2.1.1 m.2.2.length m.2.1.2,ae 4,ae 0,af ⟨#[]⟩,ag a k b,ae x.1.1,ae x.1.2.1,af x.1.2.2,ag x.2.1.1 x.2.2.length x.2.1.2]=
     List.flatMap (kY (n+3)) [bP Oc (n+2),bj (n+3) (n+1) s,bj (n+3) (n+1) m,((4,0,.empty),(a,b),xs),bj (n+3) (n+1) x]:=by
 show _=kY (n+3) (bP Oc (n+2))++(kY (n+3) (bj (n+3) (n+1) s)++(kY (n+3) (bj (n+3) (n+1) m)++(kY (n+3) ((4,0,.empty),(a,b),xs)++(kY (n+3) (bj (n+3) (n+1) x)++ []))));rw[gO,gO,gO,<-c];rfl
theorem mK{b:Type}(f:j->b)(p:List j)(k:Nat)(x:j)(a:p[k]?=some x):(p.take (k+1)).map f=(p.take k).map f++ [f x]:=by
 rw[dK,a];simp
def QY(n B:Nat)(p:List (Ac (n+1)))(w0:ah)(base k:Nat)(v:az)(wr:ah):Prop:=
 ∃a,a.length=k/\eH (n+2) B base a v w0 wr/\aN (λc b=>aJ (n+2) c (n+2) b) a ((p.take k).map (cO n))=true
theorem uR(n:Nat)(s m x:Tm (n+1))(p:List (Ac (n+1)))(len:Nat)(an:Hid (p.length=len))(bv:len<=8)(a:ay)(pc:Nat)(B:Nat)(w:ah)(be:Hid (In B w (n+1) s))(ba:Hid (In B w (n+1) m))(bf:Hid (In B w (n+1) x))(bc:Hid (Lay B w 11 (gY (n+1)) (jK (n+1) B w) a p))(ab:B<=w.heap.size)(Y:Tm (n+4))(a4:Hid (Y=eC n ((s,m,x),(a,pc),p))):au 174 #[.agg #[ae s.1.1,ae s.1.2.1,af s.1.2.2,ag s.2.1.1 s.2.2.length s.2.1.2,ae m.1.1,ae m.1.2.1,af m.1.2.2,ag m.2.1.1 m.2.2.length m.2.1.2,ag a len pc,ae x.1.1,ae x.1.2.1,af x.1.2.2,ag x.2.1.1 x.2.2.length x.2.1.2]] w (iU B (n+4) Y w):=by
 obtain⟨bg,hit,ao,aq,ar⟩:=bS gM;have G:=av (⟨hit,ao,aq,ar⟩:_/\_/\_/\_);clear hit ao aq ar;go_enter func174,ntmps174;go_wp2_with fail;have F:=av (kZ w (.cells #[ae s.1.1,ae s.1.2.1,af s.1.2.2,ag s.2.1.1 s.2.2.length s.2.1.2,ae m.1.1,ae m.1.2.1,af m.1.2.2,ag m.2.1.1 m.2.2.length m.2.1.2,ag a len pc,ae x.1.1,ae x.1.2.1,af x.1.2.2,ag x.2.1.1 x.2.2.length x.2.1.2] 229) (.cells #[ae 0,ae 0,af ⟨#[]⟩,ag none 0 0] 54));generalize O:(w.alloc _).alloc _=z;rw[O]at F;have J:Hid (ap w z/\z.heap.size=w.heap.size+2):=by
  subst O;exact⟨(aV _ _).alloc (by simp) _,by simp⟩
 have S:Hid (∀wr,Below (w.heap.size+2) z wr->ap w wr):=λwr y=>J.out.1.trans (y.mono (by omega));go_loopw [3,9] (λv R wr=>∃(k:Nat)(ax:az),k<=len/\R=ae k/\ax=v/\Hid (QY n B p z (w.heap.size+2) k ax wr)) (λ_ R _=>len-(intOf R).toNat)
 case atStart=>exact⟨0,_,by omega,rfl,rfl,[],rfl,fD.nil _,rfl⟩
 case round=>
  obtain⟨k,v,bw,rfl,rfl,W⟩:=hrel;obtain⟨u,t,j,L⟩:∃u:List (Tm (n+2)),Hid (u.length=k)/\Hid (eH (n+2) B (w.heap.size+2) u v z wr)/\Hid (aN (λa b=>aJ (n+2) a (n+2) b) u ((p.take k).map (cO n))=true):=W.out;clear W;have E:=av (S.out wr j.out.1);have a7:w.heap.size+2<=wr.heap.size:=by have:=j.out.1.size;have:=J.out.2;omega
  by_cases a9:k<len
  ·obtain⟨e,Q⟩:∃e,p[k]?=some e:=⟨p[k]'(by rw[an.out];exact a9),aU _⟩;have aH:=av (mK (cO n) p k e Q);obtain⟨bh,po,rfl,bB,⟨bi,⟨bj,bl,bm,bn⟩,⟨bo,bp,bq,br⟩,bs,bk⟩,al⟩:=(lj (fV (n+1)) (E.out.mono ab) bc.out).ac k e Q;have ad:B<=wr.heap.size:=by omega
   have T:Hid (∀w1,ap wr w1->au 201 #[.agg #[ae e.1,ae e.2.1.1.1.1,ae e.2.1.1.1.2.1,af e.2.1.1.1.2.2,ag e.2.1.1.2.1.1 e.2.1.1.2.2.length e.2.1.1.2.1.2,ae e.2.1.2.1.1,ae e.2.1.2.1.2.1,af e.2.1.2.1.2.2,ag e.2.1.2.2.1.1 e.2.1.2.2.2.length e.2.1.2.2.1.2,af e.2.2.1,ae e.2.2.2]] w1 (iU B (n+2) (cO n e) w1)):=
    λw1 aw=>Du n e B w1 ((fV (n+1)).below (aw.mono ad) al) (aF ad aw.size)
   clear al Q;generalize cO n e=bt at*;have bx:(0:Int)<=(k:Int):=by omega
   have bz:(k:Int)<(len:Int):=by omega
   have bC:bh<wr.heap.size:=by omega
   obtain⟨l,q,C⟩:=j.out.slice;rw[t.out]at C;subst C;go_wp2_with fail;refine(T.out _ aZ).mono ?_;rintro N D ⟨i,rfl,H⟩;have K:Hid (ap wr D):=aZ.trans (H.out.1.mono (by simp));have Z:dF (n+2) i=.agg #[ae i.1.1,ae i.1.2.1,af i.1.2.2,ag i.2.1.1 i.2.2.length i.2.1.2]:=rfl;rw[Z];have aK:=λ(o:Obj)(g c:Nat)(w4:ah) bb a8 a5=>av (j.out.app t.out (by omega) a7 K.out i H.out.2.1 (H.out.2.2.1.mono λb a6=>by simp at a6;omega) (o:=o) (g:=g) (c:=c) (w4:=w4) bb a8 a5);have bu:wr.heap.size<=D.heap.size:=K.out.size;clear Z T bi bj bl bm bn bo bp bq br bs bk;go_wp2_with (at_builtin;refine wpList_append_lies _ rfl _ _ 52 rfl (w.heap.size+2) 54 bg _ 4 56 underlying52 G.out.1 G.out.2.1 G.out.2.2.1 G.out.2.2.2 rfl (by decide) (ag l k q) k (u.flatMap (kY (n+2))) (by simp[Act.eval]) (j.out.own t.out K.out _) ⟨D.heap.size,0,none⟩ 1 1 (kY (n+2) i) (by simp[Act.eval]) rfl (A0 D (gL (n+2) i) rfl) (vi _ _) (by decide) (by unfold maxLen;omega) (by omega) (by simp;omega) (D.heap.size+1) (by simp) ?_;intro a2 M w4 am ak aj bA;have aI:=aK _ a2 M w4 am ak aj;clear am ak aj);go_roundw
   case rel=>exact⟨k+1,_,by omega,by go_num,rfl,u++ [i],by simp[t.out],aI.out,by rw[aH.out];exact jr _ _ _ _ _ L.out H.out.2.2.2⟩
   case measure=>simp[intOf];omega
  ·obtain rfl:k=len:=by omega
   obtain⟨l,q,C⟩:=j.out.slice;rw[t.out]at C;subst C;have f:=av (And.intro ((j.out.1.block w.heap.size (by omega)).trans F.out.1) ((j.out.1.block (w.heap.size+1) (by omega)).trans F.out.2));have aO:wr.cell? ⟨w.heap.size,0,none⟩=some (ae s.1.1):=aC f.out.1 0;have aP:wr.cell? ⟨w.heap.size,1,none⟩=some (ae s.1.2.1):=aC f.out.1 1;have aT:wr.cell? ⟨w.heap.size,2,none⟩=some (af s.1.2.2):=aC f.out.1 2;have aW:wr.cell? ⟨w.heap.size,3,none⟩=some (ag s.2.1.1 s.2.2.length s.2.1.2):=aC f.out.1 3;have M:wr.cell? ⟨w.heap.size,4,none⟩=some (ae m.1.1):=aC f.out.1 4;have aX:wr.cell? ⟨w.heap.size,5,none⟩=some (ae m.1.2.1):=aC f.out.1 5;have aY:wr.cell? ⟨w.heap.size,6,none⟩=some (af m.1.2.2):=aC f.out.1 6;have a0:wr.cell? ⟨w.heap.size,7,none⟩=some (ag m.2.1.1 m.2.2.length m.2.1.2):=aC f.out.1 7;have a1:wr.cell? ⟨w.heap.size,9,none⟩=some (ae x.1.1):=aC f.out.1 9;have aQ:wr.cell? ⟨w.heap.size,10,none⟩=some (ae x.1.2.1):=aC f.out.1 10;have aR:wr.cell? ⟨w.heap.size,11,none⟩=some (af x.1.2.2):=aC f.out.1 11;have aS:wr.cell? ⟨w.heap.size,12,none⟩=some (ag x.2.1.1 x.2.2.length x.2.1.2):=aC f.out.1 12;have d0:wr.cell? ⟨w.heap.size+1,0,none⟩=some (ae 0):=aC f.out.2 0;have d1:wr.cell? ⟨w.heap.size+1,1,none⟩=some (ae 0):=aC f.out.2 1;have d2:wr.cell? ⟨w.heap.size+1,2,none⟩=some (af ⟨#[]⟩):=aC f.out.2 2;have d3:wr.cell? ⟨w.heap.size+1,3,none⟩=some (ag none 0 0):=aC f.out.2 3;have f0:=λI=>dr f.out.2 I;have bd:w.heap.size<wr.heap.size:=by omega
   have A:w.heap.size+1<wr.heap.size:=by omega
   have U:Hid (∀d,ap wr d->(d.cell? ⟨w.heap.size,0,none⟩=some (ae s.1.1)/\d.cell? ⟨w.heap.size,1,none⟩=some (ae s.1.2.1)/\d.cell? ⟨w.heap.size,2,none⟩=some (af s.1.2.2)/\d.cell? ⟨w.heap.size,3,none⟩=some (ag s.2.1.1 s.2.2.length s.2.1.2))/\
     (d.cell? ⟨w.heap.size,4,none⟩=some (ae m.1.1)/\d.cell? ⟨w.heap.size,5,none⟩=some (ae m.1.2.1)/\d.cell? ⟨w.heap.size,6,none⟩=some (af m.1.2.2)/\d.cell? ⟨w.heap.size,7,none⟩=some (ag m.2.1.1 m.2.2.length m.2.1.2))/\
     (d.cell? ⟨w.heap.size,9,none⟩=some (ae x.1.1)/\d.cell? ⟨w.heap.size,10,none⟩=some (ae x.1.2.1)/\d.cell? ⟨w.heap.size,11,none⟩=some (af x.1.2.2)/\d.cell? ⟨w.heap.size,12,none⟩=some (ag x.2.1.1 x.2.2.length x.2.1.2))):=λd y=>by
    have h:=λo=>aB y w.heap.size o bd;exact⟨⟨(h _).trans aO,(h _).trans aP,(h _).trans aT,(h _).trans aW⟩,⟨(h _).trans M,(h _).trans aX,(h _).trans aY,(h _).trans a0⟩,(h _).trans a1,(h _).trans aQ,(h _).trans aR,(h _).trans aS⟩
   have X:Hid True:=trivial;have aE:=λ(w1:ah)(a3:ap wr w1)=>av (zR (base:=w.heap.size+2) (ys:=p.map (cO n)) (w1:=w1) ab be.out ba.out bf.out E.out j.out.tup (dC rfl (by have y:=L.out;rw[bG (by rw[an.out];omega)]at y;exact y)) a3);have aG:=av t.out;clear O j t L f S J F;go_wp2_with fail
   go_region_held3 (λd=>(d.cell? ⟨w.heap.size,0,none⟩=some (ae s.1.1)/\d.cell? ⟨w.heap.size,1,none⟩=some (ae s.1.2.1)/\d.cell? ⟨w.heap.size,2,none⟩=some (af s.1.2.2)/\d.cell? ⟨w.heap.size,3,none⟩=some (ag s.2.1.1 s.2.2.length s.2.1.2))/\
       (d.cell? ⟨w.heap.size,4,none⟩=some (ae m.1.1)/\d.cell? ⟨w.heap.size,5,none⟩=some (ae m.1.2.1)/\d.cell? ⟨w.heap.size,6,none⟩=some (af m.1.2.2)/\d.cell? ⟨w.heap.size,7,none⟩=some (ag m.2.1.1 m.2.2.length m.2.1.2))/\
       (d.cell? ⟨w.heap.size,9,none⟩=some (ae x.1.1)/\d.cell? ⟨w.heap.size,10,none⟩=some (ae x.1.2.1)/\d.cell? ⟨w.heap.size,11,none⟩=some (af x.1.2.2)/\d.cell? ⟨w.heap.size,12,none⟩=some (ag x.2.1.1 x.2.2.length x.2.1.2))) (first|(go_keep;done)|exact U.out _ r.out|(refine U.out _ ?_;go_grown;done))
    ((first
     | (go_at_call 148;refine(iY _ _).mono ?_;rintro N w1 ⟨rfl,rfl⟩)
     | (go_at_call 150;have aM:=X;clear X;refine(fX _ _ _ _).mono ?_;rintro N w1 ⟨rfl,rfl⟩)
     | (go_at_call 150;clear aM;refine(fX _ _ _ _).mono ?_;rintro N aA ⟨rfl,P⟩;have r:=av (show ap wr aA by rw[P];go_grown);have aL:=av P;clear P;replace d0:=(aB r.out _ _ A).trans d0;replace d1:=(aB r.out _ _ A).trans d1;replace d2:=(aB r.out _ _ A).trans d2;replace d3:=(aB r.out _ _ A).trans d3;replace f0:=λI=>(ia r.out _ I A).trans (f0 I))))
   go_wp2_with fail;refine aD (v:=.agg #[ae 4,ae 0,af ⟨#[]⟩,ag (some ⟨wr.heap.size+1+1,0,none⟩) 5 5]) (by simp[results,results174,go_sem,d0,d1,d2,d3]) rfl ?_;rw[a4.out];have ai:ap wr ((wr.alloc (.cells #[ae 2,ae 0,af ⟨#[111,110]⟩,ag none 0 0] 54)).alloc (.cells #[ae 4,ae 0,af ⟨#[]⟩,ag l k q] 54)):=by go_grown
   have aa:Below (((wr.alloc (.cells #[ae 2,ae 0,af ⟨#[111,110]⟩,ag none 0 0] 54)).alloc (.cells #[ae 4,ae 0,af ⟨#[]⟩,ag l k q] 54)).alloc (.cells #[ae 2,ae 0,af ⟨#[111,110]⟩,ag none 0 0,ae s.1.1,ae s.1.2.1,af s.1.2.2,ag s.2.1.1 s.2.2.length s.2.1.2,ae m.1.1,ae m.1.2.1,af m.1.2.2,ag m.2.1.1 m.2.2.length m.2.1.2,ae 4,ae 0,af ⟨#[]⟩,ag l k q,ae x.1.1,ae x.1.2.1,af x.1.2.2,ag x.2.1.1 x.2.2.length x.2.1.2] 54)).heap.size (((wr.alloc (.cells #[ae 2,ae 0,af ⟨#[111,110]⟩,ag none 0 0] 54)).alloc (.cells #[ae 4,ae 0,af ⟨#[]⟩,ag l k q] 54)).alloc (.cells #[ae 2,ae 0,af ⟨#[111,110]⟩,ag none 0 0,ae s.1.1,ae s.1.2.1,af s.1.2.2,ag s.2.1.1 s.2.2.length s.2.1.2,ae m.1.1,ae m.1.2.1,af m.1.2.2,ag m.2.1.1 m.2.2.length m.2.1.2,ae 4,ae 0,af ⟨#[]⟩,ag l k q,ae x.1.1,ae x.1.2.1,af x.1.2.2,ag x.2.1.1 x.2.2.length x.2.1.2] 54)) aA:=by rw[aL.out];go_grown
   have V:=aE _ ai;exact FF (B:=B) (base:=w.heap.size+2) _ _ (by have:=ai.size;omega) (by simp) rfl (by omega) (AG (by omega) (by omega) aa) (aF aa.size (cR (bJ _ _ _ _).symm)) (dV (E.out.trans (r.out.mono E.out.size)) (by omega)) (zQ n s m x l q k u aG.out) (by show 5<=8;omega) V.out.1 V.out.2
theorem xj(n:Nat)(c:Cl (n+1))(B:Nat)(w:ah)(a:iQ (n+1) B w c)(e:c.2.2.length<=8)(f:B<=w.heap.size):au 174 #[.agg (fG (n+1) c).toArray] w (iU B (n+4) (eC n c) w):=by
 obtain⟨⟨h,g,i⟩,⟨d,pc⟩,b⟩:=c;exact uR n h g i b b.length rfl e d pc B w a.1.1 a.1.2.1 a.1.2.2 a.2.2 f _ rfl
def Q1(n B:Nat)(d:List (Tm (n+4)))(p:List (Cl (n+1)))(w0:ah)(base k:Nat)(v:az)(wr:ah):Prop:=
 ∃a,a.length=k+2/\eH (n+4) B base a v w0 wr/\aN (λc b=>aJ (n+4) c (n+4) b) a (d++(p.take k).map (eC n))=true
theorem rD(n:Nat)(s:aq)(a9:s.size<=maxLen)(p:List (Cl (n+1)))(len:Nat)(aw:Hid (p.length=len))(bv:len<=6)(a1:Hid (∀c∈p,c.2.2.length<=8))(a:ay)(pc:Nat)(B:Nat)(w:ah)(a8:Hid (Lay B w 13 (fG (n+1)) (iQ (n+1) B w) a p))(a2:B<=w.heap.size)(Z:Tm (n+5))(a3:Hid (Z=eP n (s,(a,pc),p))):au 149 #[.agg #[af s,ag a len pc]] w (iU B (n+5) Z w):=by
 obtain⟨bb,hit,aA,aE,aH⟩:=bS gM;have A:=av (⟨hit,aA,aE,aH⟩:_/\_/\_/\_);clear hit aA aE aH;go_enter func149,ntmps149;go_wp2_with fail;have O:=av (kZ w (.cells #[af s,ag a len pc] 176) (.cells #[ae 0,ae 0,af ⟨#[]⟩,ag none 0 0] 54)).2;have z:=av (kZ w (.cells #[af s,ag a len pc] 176) (.cells #[ae 0,ae 0,af ⟨#[]⟩,ag none 0 0] 54)).1;generalize P:(w.alloc _).alloc _=e;rw[P]at O z;have j:Hid (ap w e/\e.heap.size=w.heap.size+2):=by
  subst P;exact⟨(aV _ _).alloc (by simp) _,by simp⟩
 have aL:Hid (∀wr,Below (w.heap.size+2) e wr->ap w wr):=λwr h=>j.out.1.trans (h.mono (by omega));clear P;have aa:ai e w.heap.size 0 (af s):=aC z.out 0;have ab:ai e w.heap.size 1 (ag a len pc):=aC z.out 1;have ax:w.heap.size<e.heap.size:=by have:=j.out.2;omega
 have M:Hid (∀w',ap e w'->ai w' w.heap.size 0 (af s)/\ai w' w.heap.size 1 (ag a len pc)):=λw' h=>⟨(aB h _ _ ax).trans aa,(aB h _ _ ax).trans ab⟩;clear z
 go_region_held3 (λw'=>w'.cell? ⟨w.heap.size,0,none⟩=some (af s)/\w'.cell? ⟨w.heap.size,1,none⟩=some (ag a len pc)) (first|(go_keep;done)|(refine M.out _ ?_;go_grown;done))
  ((go_at_call 148;refine(iY _ _).mono ?_;rintro D w1 ⟨rfl,rfl⟩))
 have X:Hid (aN (λa b=>aJ (n+4) a (n+4) b) [bP xr (n+3),bP s (n+3)] ([bP xr (n+3),bP s (n+3)]++(p.take 0).map (eC n))=true):=by
  show _=true;simp[aN,ey]
 have L:Hid (eH (n+4) B (w.heap.size+2) [bP xr (n+3),bP s (n+3)] (ag (some ⟨e.heap.size+1+1,0,none⟩) 2 2) e (((e.alloc (.cells #[ae 2,ae 0,af ⟨#[98,101,104]⟩,ag none 0 0] 54)).alloc (.cells #[ae 2,ae 0,af s,ag none 0 0] 54)).alloc (.cells #[ae 2,ae 0,af ⟨#[98,101,104]⟩,ag none 0 0,ae 2,ae 0,af s,ag none 0 0] 54)).drew):=by
  have h:=fD.lit (T:=54) (k:=4) (B:=B) (base:=w.heap.size+2) (eD (n+4)) [bP xr (n+3),bP s (n+3)] (w0:=e) (w1:=(e.alloc (.cells #[ae 2,ae 0,af ⟨#[98,101,104]⟩,ag none 0 0] 54)).alloc (.cells #[ae 2,ae 0,af s,ag none 0 0] 54)) (cs:= #[ae 2,ae 0,af ⟨#[98,101,104]⟩,ag none 0 0,ae 2,ae 0,af s,ag none 0 0]) rfl (pY _) (by show 2<=maxLen;unfold maxLen;omega) (by have:=j.out.2;simp;omega) (((aG _ _).alloc (by have:=j.out.2;omega) _).alloc (by have:=j.out.2;simp;omega) _) (λd m=>by
   simp only[cq,gi,gn]at m;rcases m with rfl|rfl
   ·exact⟨iA _ _ (oA _ (by decide)) _ _,pE _ _ _⟩
   ·exact⟨iA _ _ a9 _ _,pE _ _ _⟩)
  have D:((e.alloc (.cells #[ae 2,ae 0,af ⟨#[98,101,104]⟩,ag none 0 0] 54)).alloc (.cells #[ae 2,ae 0,af s,ag none 0 0] 54)).heap.size=e.heap.size+1+1:=by simp
  rw[D]at h;exact h.later (eD _) (by have:=j.out.2;simp;omega) (aG _ _).drew
 have N:=av (M.out _ (show ap e (((e.alloc (.cells #[ae 2,ae 0,af ⟨#[98,101,104]⟩,ag none 0 0] 54)).alloc (.cells #[ae 2,ae 0,af s,ag none 0 0] 54)).alloc (.cells #[ae 2,ae 0,af ⟨#[98,101,104]⟩,ag none 0 0,ae 2,ae 0,af s,ag none 0 0] 54)).drew by go_grown));generalize ak:(((e.alloc _).alloc _).alloc _).drew=aW;rw[ak]at L N;have bD:ai aW w.heap.size 1 (ag a len pc):=N.out.2;clear ak M N aa ab;go_wp2_with fail;go_loopw [3,14] (λv R wr=>∃(k:Nat)(aK:az),k<=len/\R=ae k/\aK=v/\Hid (Q1 n B ([bP xr (n+3),bP s (n+3)]) p e (w.heap.size+2) k aK wr)) (λ_ R _=>len-(intOf R).toNat)
 case atStart=>exact⟨0,_,by omega,rfl,rfl,_,rfl,L.out,X.out⟩
 case round=>
  clear L X;obtain⟨k,v,bw,rfl,rfl,Y⟩:=hrel;obtain⟨t,q,i,W⟩:∃t:List (Tm (n+4)),Hid (t.length=k+2)/\Hid (eH (n+4) B (w.heap.size+2) t v e wr)/\Hid (aN (λa b=>aJ (n+4) a (n+4) b) t (([bP xr (n+3),bP s (n+3)])++(p.take k).map (eC n))=true):=Y.out;clear Y;have K:=av (aL.out wr i.out.1);have am:w.heap.size+2<=wr.heap.size:=by have:=i.out.1.size;have:=j.out.2;omega
  by_cases a6:k<len
  ·obtain⟨d,m⟩:∃d,p[k]?=some d:=⟨p[k]'(by rw[aw.out];exact a6),aU _⟩;have aO:=av (mK (eC n) p k d m);obtain⟨bc,po,rfl,bB,⟨⟨bd,be,bi,bj⟩,⟨bk,bl,bm,bn⟩,bo,bp,bf,bg,bh⟩,ao⟩:=(lj (eM (n+1)) (K.out.mono a2) a8.out).cl k d m;have aj:B<=wr.heap.size:=by omega
   have aR:=av m
   have V:Hid (∀w1,ap wr w1->au 174 #[.agg #[ae d.1.1.1.1,ae d.1.1.1.2.1,af d.1.1.1.2.2,ag d.1.1.2.1.1 d.1.1.2.2.length d.1.1.2.1.2,ae d.1.2.1.1.1,ae d.1.2.1.1.2.1,af d.1.2.1.1.2.2,ag d.1.2.1.2.1.1 d.1.2.1.2.2.length d.1.2.1.2.1.2,ag d.2.1.1 d.2.2.length d.2.1.2,ae d.1.2.2.1.1,ae d.1.2.2.1.2.1,af d.1.2.2.1.2.2,ag d.1.2.2.2.1.1 d.1.2.2.2.2.length d.1.2.2.2.1.2]] w1 (iU B (n+4) (eC n d) w1)):=
    λw1 F=>xj n d B w1 ((eM (n+1)).below (F.mono aj) ao) (a1.out d (aT aR.out)) (aF aj F.size)
   clear ao m;generalize eC n d=bq at*;have bx:(0:Int)<=(k:Int):=by omega
   have bz:(k:Int)<(len:Int):=by omega
   have bC:bc<wr.heap.size:=by omega
   obtain⟨H,I,x⟩:=i.out.slice;rw[q.out]at x;subst x;go_wp2_with fail;refine(V.out _ aZ).mono ?_;rintro D y ⟨f,rfl,C⟩;have J:Hid (ap wr y):=aZ.trans (C.out.1.mono (by simp));have E:dF (n+4) f=.agg #[ae f.1.1,ae f.1.2.1,af f.1.2.2,ag f.2.1.1 f.2.2.length f.2.1.2]:=rfl;rw[E];have aQ:=λ(o:Obj)(g c:Nat)(w4:ah) a7 a5 a4=>av (i.out.app q.out (by omega) am J.out f C.out.2.1 (C.out.2.2.1.mono λb Q=>by simp at Q;omega) (o:=o) (g:=g) (c:=c) (w4:=w4) a7 a5 a4);have bu:wr.heap.size<=y.heap.size:=J.out.size;clear E V bd be bi bj bk bl bm bn bo bp bf bg bh;go_wp2_with (at_builtin;refine wpList_append_lies _ rfl _ _ 52 rfl (w.heap.size+2) 54 bb _ 4 56 underlying52 A.out.1 A.out.2.1 A.out.2.2.1 A.out.2.2.2 rfl (by decide) (ag H (k+2) I) (k+2) (t.flatMap (kY (n+4))) (by simp[Act.eval]) (i.out.own q.out J.out _) ⟨y.heap.size,0,none⟩ 1 1 (kY (n+4) f) (by simp[Act.eval]) rfl (A0 y (gL (n+4) f) rfl) (vi _ _) (by decide) (by unfold maxLen;omega) (by omega) (by simp;omega) (y.heap.size+1) (by simp) ?_;intro a0 aX w4 ar an al bA;have aP:=aQ _ a0 aX w4 ar an al;clear ar an al);go_roundw
   case rel=>exact⟨k+1,_,by omega,by go_num,rfl,t++ [f],by have:=q.out;simp;omega,aP.out,by rw[aO.out,<-lA];exact jr _ _ _ _ _ W.out C.out.2.2.2⟩
   case measure=>simp[intOf];omega
  ·obtain rfl:k=len:=by omega
   obtain⟨H,I,x⟩:=i.out.slice;rw[q.out]at x;subst x;have r:=av ((i.out.1.block (w.heap.size+1) (by omega)).trans O.out);have d0:wr.cell? ⟨w.heap.size+1,0,none⟩=some (ae 0):=aC r.out 0;have d1:wr.cell? ⟨w.heap.size+1,1,none⟩=some (ae 0):=aC r.out 1;have d2:wr.cell? ⟨w.heap.size+1,2,none⟩=some (af ⟨#[]⟩):=aC r.out 2;have d3:wr.cell? ⟨w.heap.size+1,3,none⟩=some (ag none 0 0):=aC r.out 3;have f0:=λG=>dr r.out G;have u:w.heap.size+1<wr.heap.size:=by omega
   have aM:=λ(aS w':ah) Q F ba=>av (eH.tells (w:=w) (ys:=([bP xr (n+3),bP s (n+3)])++p.map (eC n)) (w':=w') (i.out.later (eD _) am (w1:=aS) Q) (by omega) (by have h:=W.out;rw[bG (by rw[aw.out];omega)]at h;exact h) F ba);clear r O;go_wp2_with (go_at_call 150;refine(fX _ _ _ _).mono ?_;rintro D S ⟨rfl,aI⟩;have l:=av (show ap wr S by rw[aI];go_grown);clear aI;replace d0:=(aB l.out _ _ u).trans d0;replace d1:=(aB l.out _ _ u).trans d1;replace d2:=(aB l.out _ _ u).trans d2;replace d3:=(aB l.out _ _ u).trans d3;replace f0:=λG=>(ia l.out _ G u).trans (f0 G));refine aD (v:=.agg #[ae 4,ae 0,af ⟨#[]⟩,ag H (k+2) I]) (by simp[results,results149,go_sem,d0,d1,d2,d3]) rfl ?_;rw[a3.out];obtain⟨br,bs,ad,U⟩:=(aM S (dk S (w.heap.size+1) 0 (ae 4) (ae 0) (af ⟨#[]⟩) (ag H (k+2) I)) l.out (AG (by omega) (by omega) (aG _ _)) (cR (bJ _ _ _ _).symm)).out (dV (K.out.trans (l.out.mono K.out.size)) (by omega));rw[q.out]at ad U;injection ad with aY bt E;subst aY E;exact U
theorem sM(n:Nat)(b:Bh (n+1))(B:Nat)(w:ah)(a:rN (n+1) B w b)(f:b.2.2.length<=6)(g:∀c∈b.2.2,c.2.2.length<=8)(h:B<=w.heap.size):au 149 #[.agg (rK (n+1) b).toArray] w (iU B (n+5) (eP n b) w):=by
 obtain⟨i,⟨e,pc⟩,d⟩:=b;exact rD n i a.1 d d.length rfl f g e pc B w a.2.2 h _ rfl
def Q3(n B:Nat)(d:List (Tm (n+5)))(p:List (Bh (n+1)))(w0:ah)(base k:Nat)(v:az)(wr:ah):Prop:=
 ∃a,a.length=k+1/\eH (n+5) B base a v w0 wr/\aN (λc b=>aJ (n+5) c (n+5) b) a (d++(p.take k).map (eP n))=true
theorem tP(n:Nat)(p:List (Bh (n+1)))(len:Nat)(am:Hid (p.length=len))(bc:len<=7)(Y:Hid (∀b∈p,b.2.2.length<=6/\∀c∈b.2.2,c.2.2.length<=8))(a:ay)(pc:Nat)(B:Nat)(w:ah)(a0:Hid (iW (n+1) B w a p))(aQ:B<=w.heap.size)(W:Tm (n+6))(aR:Hid (W=cX n p)):au 121 #[ag a len pc] w (iU B (n+6) W w):=by
 obtain⟨a2,hit,an,ao,aq⟩:=bS gM;have y:=av (⟨hit,an,ao,aq⟩:_/\_/\_/\_);clear hit an ao aq;go_enter func121,ntmps121;go_wp2_with (go_at_call 148;refine(iY _ _).mono ?_;rintro A w1 ⟨rfl,rfl⟩);have K:=av (aK w (.cells #[ae 0,ae 0,af ⟨#[]⟩,ag none 0 0] 54));have S:Hid (aN (λa b=>aJ (n+5) a (n+5) b) [bP px (n+4)] ([bP px (n+4)]++(p.take 0).map (eP n))=true):=by
  show _=true;simp[aN,ey]
 generalize L:w.alloc (.cells #[ae 0,ae 0,af ⟨#[]⟩,ag none 0 0] 54)=e;rw[L]at K;have s:Hid (ap w e/\e.heap.size=w.heap.size+1):=by
  subst L;exact⟨aV _ _,by simp⟩
 have ax:Hid (∀wr,Below (w.heap.size+1) e wr->ap w wr):=λwr j=>s.out.1.trans (j.mono (by omega));clear L;have J:Hid (eH (n+5) B (w.heap.size+1) [bP px (n+4)] (ag (some ⟨w.heap.size+1+1,0,none⟩) 1 1) e ((e.alloc (.cells #[ae 2,ae 0,af ⟨#[99,111,100,101]⟩,ag none 0 0] 54)).alloc (.cells #[ae 2,ae 0,af ⟨#[99,111,100,101]⟩,ag none 0 0] 54))):=by
  have j:=fD.lit (T:=54) (k:=4) (B:=B) (base:=w.heap.size+1) (eD (n+5)) [bP px (n+4)] (w0:=e) (w1:=e.alloc (.cells #[ae 2,ae 0,af ⟨#[99,111,100,101]⟩,ag none 0 0] 54)) (cs:= #[ae 2,ae 0,af ⟨#[99,111,100,101]⟩,ag none 0 0]) rfl (pY _) (by show 1<=maxLen;unfold maxLen;omega) (by have:=s.out.2;simp;omega) ((aG _ _).alloc (by have:=s.out.2;omega) _) (λd l=>by
   simp only[cq,gi,gn]at l;subst l
   exact⟨iA _ _ (oA _ (by decide)) _ _,pE _ _ _⟩)
  have A:(e.alloc (.cells #[ae 2,ae 0,af ⟨#[99,111,100,101]⟩,ag none 0 0] 54)).heap.size=w.heap.size+1+1:=by have:=s.out.2;simp;omega
  rw[A]at j;exact j
 generalize aa:(e.alloc _).alloc _=a6;rw[aa]at J;clear aa;go_loopw [3,10] (λv N wr=>∃(k:Nat)(aw:az),k<=len/\N=ae k/\aw=v/\Hid (Q3 n B ([bP px (n+4)]) p e (w.heap.size+1) k aw wr)) (λ_ N _=>len-(intOf N).toNat)
 case atStart=>exact⟨0,_,by omega,rfl,rfl,_,rfl,J.out,S.out⟩
 case round=>
  clear J S;obtain⟨k,v,bd,rfl,rfl,U⟩:=hrel;obtain⟨r,m,h,R⟩:∃r:List (Tm (n+5)),Hid (r.length=k+1)/\Hid (eH (n+5) B (w.heap.size+1) r v e wr)/\Hid (aN (λa b=>aJ (n+5) a (n+5) b) r (([bP px (n+4)])++(p.take k).map (eP n))=true):=U.out;clear U;have I:=av (ax.out wr h.out.1);have ad:w.heap.size+1<=wr.heap.size:=by have:=h.out.1.size;have:=s.out.2;omega
  by_cases aX:k<len
  ·obtain⟨d,l⟩:∃d,p[k]?=some d:=⟨p[k]'(by rw[am.out];exact aX),aU _⟩;have aE:=av (mK (eP n) p k d l);obtain⟨a3,po,rfl,bi,⟨a4,a5⟩,ak⟩:=(iW.below (I.out.mono aQ) a0.out).bh k d l;have Z:B<=wr.heap.size:=by omega
   have V:=av l
   have Q:Hid (∀w1,ap wr w1->au 149 #[.agg #[af d.1,ag d.2.1.1 d.2.2.length d.2.1.2]] w1 (iU B (n+5) (eP n d) w1)):=
    λw1 D=>sM n d B w1 ((eL (n+1)).below (D.mono Z) ak) (Y.out d (aT V.out)).1 (Y.out d (aT V.out)).2 (aF Z D.size)
   clear ak l;generalize eP n d=a7 at*;have be:(0:Int)<=(k:Int):=by omega
   have bf:(k:Int)<(len:Int):=by omega
   have bj:a3<wr.heap.size:=by omega
   obtain⟨F,G,u⟩:=h.out.slice;rw[m.out]at u;subst u;go_wp2_with fail;refine(Q.out _ aZ).mono ?_;rintro A x ⟨f,rfl,z⟩;have H:Hid (ap wr x):=aZ.trans (z.out.1.mono (by simp));have C:dF (n+5) f=.agg #[ae f.1.1,ae f.1.2.1,af f.1.2.2,ag f.2.1.1 f.2.2.length f.2.1.2]:=rfl;rw[C];have aI:=λ(o:Obj)(g c:Nat)(w4:ah) aY aW aS=>av (h.out.app m.out (by omega) ad H.out f z.out.2.1 (z.out.2.2.1.mono λb M=>by simp at M;omega) (o:=o) (g:=g) (c:=c) (w4:=w4) aY aW aS);have bb:wr.heap.size<=x.heap.size:=H.out.size;clear C Q a4 a5;go_wp2_with (at_builtin;refine wpList_append_lies _ rfl _ _ 52 rfl (w.heap.size+1) 54 a2 _ 4 56 underlying52 y.out.1 y.out.2.1 y.out.2.2.1 y.out.2.2.2 rfl (by decide) (ag F (k+1) G) (k+1) (r.flatMap (kY (n+5))) (by simp[Act.eval]) (h.out.own m.out H.out _) ⟨x.heap.size,0,none⟩ 1 1 (kY (n+5) f) (by simp[Act.eval]) rfl (A0 x (gL (n+5) f) rfl) (vi _ _) (by decide) (by unfold maxLen;omega) (by omega) (by simp;omega) (x.heap.size+1) (by simp) ?_;intro aP aM w4 al aj ab bg;have aH:=aI _ aP aM w4 al aj ab;clear al aj ab);go_roundw
   case rel=>exact⟨k+1,_,by omega,by go_num,rfl,r++ [f],by have:=m.out;simp;omega,aH.out,by rw[aE.out,<-lA];exact jr _ _ _ _ _ R.out z.out.2.2.2⟩
   case measure=>simp[intOf];omega
  ·obtain rfl:k=len:=by omega
   obtain⟨F,G,u⟩:=h.out.slice;rw[m.out]at u;subst u;have q:=av ((h.out.1.block (w.heap.size) (by omega)).trans K.out);have d0:ai wr w.heap.size 0 (ae 0):=aC q.out 0;have d1:ai wr w.heap.size 1 (ae 0):=aC q.out 1;have d2:ai wr w.heap.size 2 (af ⟨#[]⟩):=aC q.out 2;have d3:ai wr w.heap.size 3 (ag none 0 0):=aC q.out 3;have f0:=λE=>dr q.out E;have t:w.heap.size<wr.heap.size:=by omega
   have aA:=λ(aL w':ah) M D a1=>av (eH.tells (w:=w) (ys:=([bP px (n+4)])++p.map (eP n)) (w':=w') (h.out.later (eD _) ad (w1:=aL) M) (by omega) (by have j:=R.out;rw[bG (by rw[am.out];omega)]at j;exact j) D a1);clear q K;go_wp2_with (go_at_call 150;refine(fX _ _ _ _).mono ?_;rintro A O ⟨rfl,ar⟩;have i:=av (show ap wr O by rw[ar];go_grown);clear ar;replace d0:=(aB i.out _ _ t).trans d0;replace d1:=(aB i.out _ _ t).trans d1;replace d2:=(aB i.out _ _ t).trans d2;replace d3:=(aB i.out _ _ t).trans d3;replace f0:=λE=>(ia i.out _ E t).trans (f0 E));refine aD (v:=.agg #[ae 4,ae 0,af ⟨#[]⟩,ag F (k+1) G]) (by simp[results,results121,go_sem,d0,d1,d2,d3]) rfl ?_;rw[aR.out];obtain⟨a8,a9,X,P⟩:=(aA O (dk O (w.heap.size) 0 (ae 4) (ae 0) (af ⟨#[]⟩) (ag F (k+1) G)) i.out (AG (by omega) (by omega) (aG _ _)) (cR (bJ _ _ _ _).symm)).out (dV (I.out.trans (i.out.mono I.out.size)) (by omega));rw[m.out]at X P;injection X with aO ba C;subst aO C;exact P
theorem uS(n:Nat)(p:List (Bh (n+1)))(a:ay)(pc:Nat)(B:Nat)(w:ah)(g:iW (n+1) B w a p)(d:p.length<=7)(e:∀b∈p,b.2.2.length<=6/\∀c∈b.2.2,c.2.2.length<=8)(f:B<=w.heap.size):au 121 #[ag a p.length pc] w (iU B (n+6) (cX n p) w):=
 tP n p p.length rfl d e a pc B w g f _ rfl
def zT(N:Nat):Tm (N+1):=((0,0,.empty),(none,0),[])
def oJ(n:Nat)(p:List (Bh (n+1))):Int:=if lk (n+1) p then bK (n+6) (cX n p)else 5
def Ju(n:Nat)(p:List (Bh (n+1))):Tm (n+6):=if oJ n p=0 then cX n p else zT (n+5)
def JZ(B n:Nat)(p:List (Bh (n+1)))(w:ah)(e:Ending)(w':ah):Prop:=
 ∃a:Tm (n+6),e=aw (ax #[dF (n+6) a,ae (oJ n p)])/\Hid (ap w w'/\In w'.heap.size w' (n+6) a/\cF (λb=>b<B\/w.heap.size<=b) (n+6) a/\aJ (n+6) a (n+6) (Ju n p)=true)
theorem mg(N B:Nat)(w:ah):In B w (N+1) (zT N):=⟨⟨by simp[zT,dn],by simp[zT,dn],aM _,by simp[zT],by simp[zT]⟩,ak rfl⟩
theorem GO{p:List (Bh (n+1))}{k:Int}(b:ap w w')(c:k=oJ n p)(a:¬k=0):JZ B n p w (aw (ax #[.agg #[ae 0,ae 0,af .empty,ag none 0 0],ae k])) w':=by
 subst c;refine⟨zT (n+5),rfl,b,mg _ _ _,ak rfl,?_⟩;unfold Ju;rw[if_neg a];exact mz (mg _ 0 w)
theorem yR{p:List (Bh n)}(a:lk n p=true):p.length<=7/\∀b∈p,b.2.2.length<=6/\∀c∈b.2.2,c.2.2.length<=8:=by
 simp only[lk,xY,vD,aS,cU,cY]at a;refine⟨by omega,λb d=>⟨by have:=(a.2 b d).1.2;omega,λc e=>by have:=((a.2 b d).2 c e).1;omega⟩⟩
theorem rY(w:ah)(v0 v1 v2 v3:az)(t:TypeId)(a:Below (w.alloc (.cells #[v0,v1,v2,v3] t)).heap.size (w.alloc (.cells #[v0,v1,v2,v3] t)) w'):w'.heap[w.heap.size]?=some (.cells #[v0,v1,v2,v3] t):=
 (a.block _ (by simp)).trans (aK w _)
theorem Mf(n:Nat)(p:List (Bh (n+1)))(a:ay)(pc:Nat)(aq:p.length<=pc)(ad:pc<=maxLen)(B:Nat)(w:ah)(L:iW (n+1) B w a p)(A:B<=w.heap.size)(ab:lk (n+1) p=true->(aH (n+6) (cX n p)).length<=2097152):au 82 #[ag a p.length pc] w (JZ B n p w):=by
 have Q:Hid (∀f,ap w f->au 81 #[ag a p.length pc] f λk m=>k=aw (.bool (lk (n+1) p))/\ap f m):=
  λf s=>qz n p p.length rfl a pc B f (L.below (s.mono A)) (by unfold maxLen at ad;omega) (aF A s.size)
 have G:Hid (lk (n+1) p=true->∀f,ap w f->au 121 #[ag a p.length pc] f (iU B (n+6) (cX n p) f)):=
  λs f z=>uS n p a pc B f (L.below (z.mono A)) (yR s).1 (yR s).2 (aF A z.size)
 have x:Hid (oJ n p=if lk (n+1) p then bK (n+6) (cX n p)else 5):=rfl;have R:=av ab;have T:Hid (Ju n p=if oJ n p=0 then cX n p else zT (n+5)):=rfl;clear L ab aq ad;generalize p.length=len at*;generalize lk (n+1) p=aG at*;go_enter func82,ntmps82;go_wp2_with fail;refine(Q _ aZ).mono ?_;rintro k f ⟨rfl,J⟩;have h:=av (rY w _ _ _ _ _ J);have r:Hid (ap w f):=aZ.trans (J.mono (by simp));have ar:w.heap.size<f.heap.size:=(aR.1 h).1;clear J Q;cases aG
 ·have d0:ai f w.heap.size 0 (ae 0):=aC h 0;have d1:ai f w.heap.size 1 (ae 0):=aC h 1;have d2:ai f w.heap.size 2 (af ⟨#[]⟩):=aC h 2;have d3:ai f w.heap.size 3 (ag none 0 0):=aC h 3;have f0:=λu=>dr h u;clear G h;go_wp2_with fail;exact aD (v:=ax #[.agg #[ae 0,ae 0,af .empty,ag none 0 0],ae 5]) (by simp[results,results82,go_sem,d0,d1,d2,d3];rfl) rfl (GO (dV r (aA _)) (by rw[x.out];rfl) (by omega))
 ·have S:=av (G rfl f r);go_wp2_with fail;refine S.mono ?_;rintro k g ⟨d,rfl,j⟩;have M:Hid (ap w g):=r.trans (j.1.mono r.size);have Y:dF (n+6) d=.agg #[ae d.1.1,ae d.1.2.1,af d.1.2.2,ag d.2.1.1 d.2.2.length d.2.1.2]:=rfl;have O:Hid (∀e,ap g e->au 53 #[.agg #[ae d.1.1,ae d.1.2.1,af d.1.2.2,ag d.2.1.1 d.2.2.length d.2.1.2]] e λk m=>k=aw (ae (oJ n p))/\ap e m):=λe t=>by
   have:=dW (n+6) d g.heap.size e (j.2.1.below t) t.size (by rw[lp _ _ _ _ j.out.2.2.2];exact R (by simp));rw[bO j.out.2.2.2]at this;rw[x.out];exact this
  have F:Hid (oJ n p=0->∀e,ap g e->au 91 #[.agg #[ae d.1.1,ae d.1.2.1,af d.1.2.2,ag d.2.1.1 d.2.2.length d.2.1.2]] e λk m=>∃c:Tm (n+6),k=aw (dF (n+6) c)/\Hid (ap e m/\In m.heap.size m (n+6) c/\cF (λaE=>e.heap.size<=aE) (n+6) c/\aJ (n+6) c (n+6) d=true)):=λan e t=>
   iC (n+6) d g.heap.size e (j.2.1.below t) t.size (aY.2 (by have z:bK (n+6) (cX n p)=0:=(by simpa [x.out]using an);rw[j0 _ _ _ _ j.out.2.2.2];exact(bT.1 z).1))
  have al:=av j.2.2.2;have H:=av ((j.1.block _ ar).trans h);have az:w.heap.size<g.heap.size:=(aR.1 H).1;rw[Y];clear G S h r j Y R;generalize aa:oJ n p=C at*;have P:=av aa;clear aa x;go_wp2_with fail;refine(O _ aZ).mono ?_;rintro k e ⟨rfl,K⟩;have E:Hid (ap g e):=aZ.trans (K.mono (by simp));have D:Hid (ap w e):=M.trans (E.mono M.size);have y:=av (rY g _ _ _ _ _ K);have i:=av ((E.block _ az).trans H);have aB:w.heap.size<e.heap.size:=(aR.1 i).1;have U:ai e g.heap.size 0 (ae d.1.1):=aC y 0;have V:ai e g.heap.size 1 (ae d.1.2.1):=aC y 1;have W:ai e g.heap.size 2 (af d.1.2.2):=aC y 2;have X:ai e g.heap.size 3 (ag d.2.1.1 d.2.2.length d.2.1.2):=aC y 3;clear K O H;by_cases I:C=0
  ·subst I;have aj:=av (F rfl e E);clear F;go_wp2_with fail;refine aj.mono ?_;rintro k q ⟨c,rfl,l⟩;have o:=av ((l.1.block _ aB).trans i);have N:Hid (ap w q):=D.trans (l.1.mono D.size);have d0:ai q w.heap.size 0 (ae 0):=aC o 0;have d1:ai q w.heap.size 1 (ae 0):=aC o 1;have d2:ai q w.heap.size 2 (af ⟨#[]⟩):=aC o 2;have d3:ai q w.heap.size 3 (ag none 0 0):=aC o 3;have f0:=λu=>dr o u;have Z:dF (n+6) c=.agg #[ae c.1.1,ae c.1.2.1,af c.1.2.2,ag c.2.1.1 c.2.2.length c.2.1.2]:=rfl;rw[Z];have ak:Hid (JZ B n p w (aw (ax #[.agg #[ae c.1.1,ae c.1.2.1,af c.1.2.2,ag c.2.1.1 c.2.2.length c.2.1.2],ae 0])) (dk q w.heap.size 0 (ae c.1.1) (ae c.1.2.1) (af c.1.2.2) (ag c.2.1.1 c.2.2.length c.2.1.2))):=by
    refine⟨c,by rw[P.out];rfl,dV N (aA _),?_,l.2.2.1.mono λb ao=>am (by omega),?_⟩
    ·rw[bJ];exact In.off (λb ao=>bw (by omega) _ _ _ _) l.2.2.1 l.2.1
    ·rw[show Ju n p=cX n p from by simpa using T.out];exact bV _ _ _ _ _ _ l.2.2.2 al
   clear o i l N U V W X Z T;go_wp2_with fail;exact aD (v:=ax #[.agg #[ae c.1.1,ae c.1.2.1,af c.1.2.2,ag c.2.1.1 c.2.2.length c.2.1.2],ae 0]) (by simp[results,results82,go_sem,d0,d1,d2,d3]) rfl ak
  ·have d0:ai e w.heap.size 0 (ae 0):=aC i 0;have d1:ai e w.heap.size 1 (ae 0):=aC i 1;have d2:ai e w.heap.size 2 (af ⟨#[]⟩):=aC i 2;have d3:ai e w.heap.size 3 (ag none 0 0):=aC i 3;have f0:=λu=>dr i u;have aI:(C !=0)=true:=by simpa using I
   clear i F U V W X;go_wp2_with fail;exact aD (v:=ax #[.agg #[ae 0,ae 0,af .empty,ag none 0 0],ae C]) (by simp[results,results82,go_sem,d0,d1,d2,d3];rfl) rfl (GO (dV D (aA _)) P.symm I)
theorem eH.ownAt{xs:List (Tm N)}(a:eH N B base xs v w0 wr)(c:xs.length=k)(b:ap wr W):W.ownsRow base 54 4 v k (xs.flatMap (kY N)):=by
 subst c;exact dU a.2.1 b
theorem eH.appAt{xs:List (Tm N)}(d:eH N B base xs v w0 wr)(n:xs.length=k)(f:B<=base)(l:base<=wr.heap.size)(e:ap wr W)(a:Tm N)(i:In W.heap.size W N a)(h:cF (λb=>b<B\/wr.heap.size<=b) N a)(o:w4.ownsRow base 54 4 (ag (some ⟨g,0,none⟩) (k+1) c) (k+1) (xs.flatMap (kY N)++kY N a))(m:W.grownBy w4 v.ownBlock)(j:v.ownBlock=some g\/g=W.heap.size):eH N B base (xs++ [a]) (ag (some ⟨g,0,none⟩) (k+1) c) w0 w4:=by
 subst n;exact fD.step (eD N) d f l e a i h o m j
theorem sx(a:ah)(o:Obj)(b:g=a.heap.size):(a.alloc o).drew.heap[g]?=some o:=by
 subst b;exact aK a o
theorem yH(a:ah)(o:Obj)(b:g=a.heap.size):(a.alloc o).heap[g]?=some o:=by
 subst b;exact aK a o
def PL(b:Nat)(name:aq)(a:Wd)(mv:az):cQ:=⟨b,1,[af name],[ae a.1,ae a.2,mv],195⟩
def kv(Mh:aW)(ma:ay)(vs:List Wd)(a:Nat)(w:ah):Prop:=
 (ma=none/\vs=[]/\a=0)\/∃c d b,ma=some ⟨c,d,none⟩/\¬Mh c/\w.heap[c]?=some (.cells b 184 (0,0))/\vs.length<=a/\a<=maxLen/\d+a*2<=b.size/\(b.toList.drop d).take (vs.length*2)=bz vs
def kM(N:Nat)(ws:List Wd)(nm:bm)(room:Int)(b:List Wd)(a:List (Tm N)):Prop:=
 gW ws nm N b a/\(b.flatMap (pT ws N)).Nodup/\(∀c∈a,bK N c=0/\aX N c=true)/\(a.map (sz N)).sum<=(ws.length:Int)/\(ws.length:Int)<=room/\0<=room/\room<=1000/\nm.Nodup
structure cV (base pb:Nat) (name:aq) (room:Int) (N:Nat) (s:Tm N) (ms:List (Tm N)) (xs:List (Wd×Tm N)) (nk:Nat) (M:aW) (w:ah) (ws:List Wd) (nm:bm) (sv:Wd) (vs:List Wd) (ma:ay) (mc:Nat) (Mh:aW):Prop where
 heap:dZ base (PL pb name sv (ag ma vs.length mc)) room ws nm Mh w
 mail:kv Mh ma vs mc w
 has:kM N ws nm room (sv::vs++xs.map (·.1)) (s::ms++xs.map (·.2))
 len:vs.length=ms.length
 names:nm.length<=nk
 inM:∀b,Mh b->M b
 mailM:∀a,ma=some a->M a.block
theorem dZ.box{b:cQ}{M:aW}(e:dZ base b room ws nm M w):∃tv lv mv,HB b room tv lv mv w/\∃h i,tv=ag h ws.length i:=by
 obtain⟨tv,lv,mv,f,g,_⟩:=e;refine⟨tv,lv,mv,f,?_⟩;rcases g.2 with⟨a,d⟩|⟨k,c,j,a,_⟩
 ·exact⟨none,0,by rw[a,d]⟩
 ·exact⟨_,c,a⟩
theorem PL.cells{a:Nat}{name:aq}{b:Wd}{mv:az}{room:Int}{tv lv mp:az}{w:ah}(d:HB (PL a name b mv) room tv lv mp w):w.cell? ⟨a,0,none⟩=some (af name)/\w.cell? ⟨a,5,none⟩=some (ae b.1)/\w.cell? ⟨a,5+1,none⟩=some (ae b.2)/\w.cell? ⟨a,7,none⟩=some mv/\(∀j,w.frozen? ⟨a,j,none⟩=false)/\a<w.heap.size:=by
 have c:w.heap[a]?=some (.cells #[af name,ae room,tv,lv,mp,ae b.1,ae b.2,mv] 195):=d.2;refine⟨?_,?_,?_,?_,λj=>?_,(aR.1 c).1⟩
 all_goals simp[World.cell?,World.frozen?,c]
def nT(N:Nat)(x:Tm N)(w:ah)(e:Ending)(w':ah):Prop:=∃y:Tm N,e=aw (dF N y)/\Hid (ap w w'/\In w'.heap.size w' N y/\cF (λq=>w.heap.size<=q) N y/\aJ N y N x=true)
theorem Jd(P N:Nat)(x:Tm (N+1))(v:Wd)(w:ah)(K:Hid (∀w1,ap w w1->au 163 #[.pointer (some ⟨P,1,none⟩),.agg #[ae v.1,ae v.2]] w1 λe w'=>∃y:Tm (N+1),e=aw (ax #[.agg #[ae y.1.1,ae y.1.2.1,af y.1.2.2,ag y.2.1.1 y.2.2.length y.2.1.2],ae 0])/\Hid (ap w1 w'/\In w'.heap.size w' (N+1) y/\cF (λq=>w1.heap.size<=q) (N+1) y/\aJ (N+1) y (N+1) x=true))):au 134 #[aE P,.agg #[ae v.1,ae v.2]] w (nT (N+1) x w):=by
 go_enter func134,ntmps134;go_wp2_with fail;have B:=av (kZ w (.cells #[ae v.1,ae v.2] 184) (.cells #[ae 0,ae 0,af ⟨#[]⟩,ag none 0 0] 54));have f:Hid (ap w ((w.alloc (.cells #[ae v.1,ae v.2] 184)).alloc (.cells #[ae 0,ae 0,af ⟨#[]⟩,ag none 0 0] 54))/\((w.alloc (.cells #[ae v.1,ae v.2] 184)).alloc (.cells #[ae 0,ae 0,af ⟨#[]⟩,ag none 0 0] 54)).heap.size=w.heap.size+1+1):=⟨by go_grown,by simp⟩;generalize M:(w.alloc _).alloc _=a;rw[M]at B f;clear M;have T:a.heap.size=w.heap.size+1+1:=f.2;have p:Hid (∀w',ap a w'->ai w' w.heap.size 0 (ae v.1)/\ai w' w.heap.size 1 (ae v.2)):=λw' S=>by
  have L:=(S.block w.heap.size (by omega)).trans B.1;exact⟨aC L 0,aC L 1⟩
 obtain⟨an,ao⟩:=p.out a (aG _ _);have z:Hid (ap a a.drew):=(aG _ _).drew;have A:Hid (ap a (a.alloc (.cells #[ae 0,ae 0,af ⟨#[]⟩,ag none 0 0] 54)).drew):=(show Below _ _ _ by go_grown);have F:Hid ((a.alloc (.cells #[ae 0,ae 0,af ⟨#[]⟩,ag none 0 0] 54)).drew.heap[a.heap.size]?=some (.cells #[ae 0,ae 0,af ⟨#[]⟩,ag none 0 0] 54)/\(a.alloc (.cells #[ae 0,ae 0,af ⟨#[]⟩,ag none 0 0] 54)).drew.heap.size=a.heap.size+1):=⟨sx a _ rfl,by simp⟩;clear T
 go_region_held3 (λw'=>w'.cell? ⟨w.heap.size,0,none⟩=some (ae v.1)/\w'.cell? ⟨w.heap.size,1,none⟩=some (ae v.2)) (first|(go_keep;done)|with_reducible exact p _ z|with_reducible exact p _ A|exact p _ h|exact E _|exact Q _ _ _ _|exact R _ _ _ _ _)
  ((first
   | (go_at_call 163;refine(K _ (f.1.trans (z.mono f.1.size))).mono ?_;rintro e w1 ⟨y,rfl,l⟩;have h:=av (z.trans (l.1.mono z.size));have E:Hid (∀o:Obj,(w1.alloc o).cell? ⟨w.heap.size,0,none⟩=some (ae v.1)/\(w1.alloc o).cell? ⟨w.heap.size,1,none⟩=some (ae v.2)):=λo=>p _ (h.trans (aZ.mono h.size));have R:Hid (∀(o:Obj)(m b c n:az),(dk (w1.alloc o) w1.heap.size 0 m b c n).cell? ⟨w.heap.size,0,none⟩=some (ae v.1)/\(dk (w1.alloc o) w1.heap.size 0 m b c n).cell? ⟨w.heap.size,1,none⟩=some (ae v.2)):=λo m b c n=>by have am:=h.size;have D:=f.2;exact⟨(bM (bw (by omega) m b c n) 0).trans (E o).1,(bM (bw (by omega) m b c n) 1).trans (E o).2⟩)
   | (go_at_call 163;refine(K _ (f.1.trans (A.mono f.1.size))).mono ?_;rintro e w1 ⟨y,rfl,l⟩;have h:=av (A.trans (l.1.mono A.size));have r:=av ((l.1.block _ (by have:=F.2;omega)).trans F.1);have ab:ai w1 a.heap.size 0 (ae 0):=aC r 0;have ad:ai w1 a.heap.size 1 (ae 0):=aC r 1;have aj:ai w1 a.heap.size 2 (af ⟨#[]⟩):=aC r 2;have ak:ai w1 a.heap.size 3 (ag none 0 0):=aC r 3;have al:=λu=>dr r u;have Q:Hid (∀m b c n:az,(dk w1 a.heap.size 0 m b c n).cell? ⟨w.heap.size,0,none⟩=some (ae v.1)/\(dk w1 a.heap.size 0 m b c n).cell? ⟨w.heap.size,1,none⟩=some (ae v.2)):=λm b c n=>⟨(bM (bw (by have:=f.2;omega) m b c n) 0).trans (p _ h).1,(bM (bw (by have:=f.2;omega) m b c n) 1).trans (p _ h).2⟩)))
 ·have D:=f.2;have i:Hid ((w1.alloc (.cells #[ae y.1.1,ae y.1.2.1,af y.1.2.2,ag y.2.1.1 y.2.2.length y.2.1.2] 54)).heap[w.heap.size+1]?=some (.cells #[ae 0,ae 0,af ⟨#[]⟩,ag none 0 0] 54)):=(aZ.block _ (by have:=h.size;omega)).trans ((h.block _ (by omega)).trans B.2);have k:Hid ((w1.alloc (.cells #[ae y.1.1,ae y.1.2.1,af y.1.2.2,ag y.2.1.1 y.2.2.length y.2.1.2] 54)).heap[w1.heap.size]?=some (.cells #[ae y.1.1,ae y.1.2.1,af y.1.2.2,ag y.2.1.1 y.2.2.length y.2.1.2] 54)):=aK _ _;have j:Hid (ap w (w1.alloc (.cells #[ae y.1.1,ae y.1.2.1,af y.1.2.2,ag y.2.1.1 y.2.2.length y.2.1.2] 54))/\In (w1.alloc (.cells #[ae y.1.1,ae y.1.2.1,af y.1.2.2,ag y.2.1.1 y.2.2.length y.2.1.2] 54)).heap.size (w1.alloc (.cells #[ae y.1.1,ae y.1.2.1,af y.1.2.2,ag y.2.1.1 y.2.2.length y.2.1.2] 54)) (N+1) y/\cF (λq=>w.heap.size+2<=q) (N+1) y):=⟨(f.1.trans (h.mono f.1.size)).trans (aZ.mono (f.1.trans (h.mono f.1.size)).size),(l.2.1.below aZ).mono (by simp),l.2.2.1.mono λq (C:a.heap.size<=q)=>by omega⟩;have s:Hid (∃d,d=(w1.alloc (.cells #[ae y.1.1,ae y.1.2.1,af y.1.2.2,ag y.2.1.1 y.2.2.length y.2.1.2] 54))):=⟨_,rfl⟩;obtain⟨d,t⟩:=s.out;rw[<-t]at i k j ⊢;clear t s D;have G:d.cell? ⟨w.heap.size+1,0,none⟩=some (ae 0):=aC i 0;have H:d.cell? ⟨w.heap.size+1,1,none⟩=some (ae 0):=aC i 1;have I:d.cell? ⟨w.heap.size+1,2,none⟩=some (af ⟨#[]⟩):=aC i 2;have J:d.cell? ⟨w.heap.size+1,3,none⟩=some (ag none 0 0):=aC i 3;have Z:=λu=>dr i u;have V:ai d w1.heap.size 0 (ae y.1.1):=aC k 0;have W:ai d w1.heap.size 1 (ae y.1.2.1):=aC k 1;have X:ai d w1.heap.size 2 (af y.1.2.2):=aC k 2;have Y:ai d w1.heap.size 3 (ag y.2.1.1 y.2.2.length y.2.1.2):=aC k 3;go_wp2_with fail;refine aD (v:=.agg #[ae y.1.1,ae y.1.2.1,af y.1.2.2,ag y.2.1.1 y.2.2.length y.2.1.2]) (by simp[results,results134,go_sem,G,H,I,J]) rfl ?_;refine⟨y,rfl,dV j.1 (by omega),?_,j.2.2.mono λq C=>by omega,l.2.2.2⟩;have e:=In.off (w':=dk d (w.heap.size+1) 0 (ae y.1.1) (ae y.1.2.1) (af y.1.2.2) (ag y.2.1.1 y.2.2.length y.2.1.2)) (λb (O:w.heap.size+2<=b)=>bw (by omega) _ _ _ _) j.2.2 j.2.1;rw[<-bJ (w:=d) (g:=w.heap.size+1) (o:=0) (ae y.1.1) (ae y.1.2.1) (af y.1.2.2) (ag y.2.1.1 y.2.2.length y.2.1.2)]at e;exact e
 ·have D:=f.2;have U:=F.2;have i:Hid ((dk w1 a.heap.size 0 (ae y.1.1) (ae y.1.2.1) (af y.1.2.2) (ag y.2.1.1 y.2.2.length y.2.1.2)).heap[w.heap.size+1]?=some (.cells #[ae 0,ae 0,af ⟨#[]⟩,ag none 0 0] 54)):=(bw (by omega) _ _ _ _).trans ((h.block _ (by omega)).trans B.2)
  have k:Hid ((dk w1 a.heap.size 0 (ae y.1.1) (ae y.1.2.1) (af y.1.2.2) (ag y.2.1.1 y.2.2.length y.2.1.2)).heap[a.heap.size]?=some (.cells #[ae y.1.1,ae y.1.2.1,af y.1.2.2,ag y.2.1.1 y.2.2.length y.2.1.2] 54)):=(by
   show _=_
   simp[dk,World.setCell,bR,r.out])
  have j:Hid (ap w (dk w1 a.heap.size 0 (ae y.1.1) (ae y.1.2.1) (af y.1.2.2) (ag y.2.1.1 y.2.2.length y.2.1.2))/\In (dk w1 a.heap.size 0 (ae y.1.1) (ae y.1.2.1) (af y.1.2.2) (ag y.2.1.1 y.2.2.length y.2.1.2)).heap.size (dk w1 a.heap.size 0 (ae y.1.1) (ae y.1.2.1) (af y.1.2.2) (ag y.2.1.1 y.2.2.length y.2.1.2)) (N+1) y/\cF (λq=>w.heap.size+2<=q) (N+1) y):=by
   refine⟨dV (f.1.trans (h.mono f.1.size)) (by omega),?_,l.2.2.1.mono λq C=>?_⟩
   ·rw[bJ];exact In.off (λb (O:(a.alloc (.cells #[ae 0,ae 0,af ⟨#[]⟩,ag none 0 0] 54)).drew.heap.size<=b)=>bw (by omega) _ _ _ _) l.2.2.1 l.2.1
   ·have aa:(a.alloc (.cells #[ae 0,ae 0,af ⟨#[]⟩,ag none 0 0] 54)).drew.heap.size<=q:=C;omega
  have s:Hid (∃d,d=(dk w1 a.heap.size 0 (ae y.1.1) (ae y.1.2.1) (af y.1.2.2) (ag y.2.1.1 y.2.2.length y.2.1.2))):=⟨_,rfl⟩;obtain⟨d,t⟩:=s.out;change Exit.then _ _ Exit.normal _ (dk w1 a.heap.size 0 (ae y.1.1) (ae y.1.2.1) (af y.1.2.2) (ag y.2.1.1 y.2.2.length y.2.1.2));rw[<-t]at i k j ⊢;clear t s D U;have G:d.cell? ⟨w.heap.size+1,0,none⟩=some (ae 0):=aC i 0;have H:d.cell? ⟨w.heap.size+1,1,none⟩=some (ae 0):=aC i 1;have I:d.cell? ⟨w.heap.size+1,2,none⟩=some (af ⟨#[]⟩):=aC i 2;have J:d.cell? ⟨w.heap.size+1,3,none⟩=some (ag none 0 0):=aC i 3;have Z:=λu=>dr i u;have V:ai d a.heap.size 0 (ae y.1.1):=aC k 0;have W:ai d a.heap.size 1 (ae y.1.2.1):=aC k 1;have X:ai d a.heap.size 2 (af y.1.2.2):=aC k 2;have Y:ai d a.heap.size 3 (ag y.2.1.1 y.2.2.length y.2.1.2):=aC k 3;go_wp2_with fail;refine aD (v:=.agg #[ae y.1.1,ae y.1.2.1,af y.1.2.2,ag y.2.1.1 y.2.2.length y.2.1.2]) (by simp[results,results134,go_sem,G,H,I,J]) rfl ?_;refine⟨y,rfl,dV j.1 (by omega),?_,j.2.2.mono λq C=>by omega,l.2.2.2⟩;have e:=In.off (w':=dk d (w.heap.size+1) 0 (ae y.1.1) (ae y.1.2.1) (af y.1.2.2) (ag y.2.1.1 y.2.2.length y.2.1.2)) (λb (O:w.heap.size+2<=b)=>bw (by omega) _ _ _ _) j.2.2 j.2.1;rw[<-bJ (w:=d) (g:=w.heap.size+1) (o:=0) (ae y.1.1) (ae y.1.2.1) (af y.1.2.2) (ag y.2.1.1 y.2.2.length y.2.1.2)]at e;exact e
theorem pI{x:Tm n}(a:bK n x=0):aL ⟨n,x⟩:=aY.2 (bT.1 a).1
section
variable {base pb:Nat} {name:aq} {room:Int} {N:Nat} {s:Tm (N+1)} {ms:List (Tm (N+1))} {xs:List (Wd×Tm (N+1))} {nk:Nat} {M:aW} {w:ah} {ws:List Wd} {nm:bm} {sv:Wd} {vs:List Wd} {ma:ay} {mc:Nat} {Mh:aW}
theorem cV.later(a:cV base pb name room (N+1) s ms xs nk M w ws nm sv vs ma mc Mh){w1:ah}(c:ap w w1):cV base pb name room (N+1) s ms xs nk M w1 ws nm sv vs ma mc Mh:=by
 refine⟨(a.heap.later c).mono λb c=>c.1,?_,a.has,a.len,a.names,a.inM,a.mailM⟩;rcases a.mail with g|⟨e,k,f,h,i,d,j⟩
 ·exact ak g
 ·exact am ⟨e,k,f,h,i,(c.block e (aR.1 d).1).trans d,j⟩
theorem cV.read(a:cV base pb name room (N+1) s ms xs nk M w ws nm sv vs ma mc Mh)(k:nk<=95000){i:Nat}{v:Wd}{x:Tm (N+1)}(e:(sv::vs++xs.map (·.1))[i]?=some v)(c:(s::ms++xs.map (·.2))[i]?=some x):au 134 #[aE pb,.agg #[ae v.1,ae v.2]] w (nT (N+1) x w):=by
 obtain⟨f,l,g,m,n,o,p,q⟩:=a.has;have b:=g x (aT c);have j:=a.names;exact Jd pb N x v w λh d=>KT (N+1) x v base (PL pb name sv (ag ma vs.length mc)) room ws nm Mh h ((a.later d).heap) (f.2 i v x e c) (pI b.1) b.2 (by omega) (by omega)
end
theorem FB(e N:Nat)(x:Tm (N+1))(v:Wd)(w:ah)(y:e<w.heap.size)(m:w.cell? ⟨e,5,none⟩=some (ae v.1))(n:w.cell? ⟨e,5+1,none⟩=some (ae v.2))(l:Hid (∀w1,ap w w1->au 134 #[aE e,.agg #[ae v.1,ae v.2]] w1 (nT (N+1) x w1))):au 93 #[aE e] w (nT (N+1) x w):=by
 go_enter func93,ntmps93;go_wp2_with fail;refine(l _ aZ).mono ?_;rintro f w1 ⟨a,rfl,d⟩;rw[show dF (N+1) a=.agg #[ae a.1.1,ae a.1.2.1,af a.1.2.2,ag a.2.1.1 a.2.2.length a.2.1.2]from rfl];have c:=av (rY w _ _ _ _ _ d.1);have k:Hid (ap w w1):=aZ.trans (d.1.mono (by simp));have q:w1.cell? ⟨w.heap.size,0,none⟩=some (ae 0):=aC c 0;have r:w1.cell? ⟨w.heap.size,1,none⟩=some (ae 0):=aC c 1;have s:w1.cell? ⟨w.heap.size,2,none⟩=some (af ⟨#[]⟩):=aC c 2;have t:w1.cell? ⟨w.heap.size,3,none⟩=some (ag none 0 0):=aC c 3;have z:=λp=>dr c p;clear m n;go_wp2_with fail;refine aD (v:=.agg #[ae a.1.1,ae a.1.2.1,af a.1.2.2,ag a.2.1.1 a.2.2.length a.2.1.2]) (by simp[results,results93,go_sem,q,r,s,t]) rfl ?_;have i:cF (λh=>w.heap.size+1<=h) (N+1) a:=d.2.2.1.mono λh j=>by simpa using j
 refine⟨a,rfl,dV k (aA _),?_,i.mono λh j=>by omega,d.2.2.2⟩;have f:=In.off (w':=dk w1 w.heap.size 0 (ae a.1.1) (ae a.1.2.1) (af a.1.2.2) (ag a.2.1.1 a.2.2.length a.2.1.2)) (λb (u:w.heap.size+1<=b)=>bw (by omega) _ _ _ _) i d.2.1;rw[<-bJ (w:=w1) (g:=w.heap.size) (o:=0) (ae a.1.1) (ae a.1.2.1) (af a.1.2.2) (ag a.2.1.1 a.2.2.length a.2.1.2)]at f;exact f
theorem kv.word(b:kv Mh ma vs d w){i:Nat}{v:Wd}(c:vs[i]?=some v):∃g a,ma=some ⟨g,a,none⟩/\g<w.heap.size/\w.cell? ⟨g,a+i*2,none⟩=some (ae v.1)/\w.cell? ⟨g,a+i*2+1,none⟩=some (ae v.2):=by
 rcases b with⟨_,j,_⟩|⟨g,a,p,m,_,f,q,_,r,n⟩
 ·rw[j]at c;simp at c
 ·have s:=(bi.1 c).1;have h:∀(l:List Wd)(i:Nat)(v:Wd),l[i]?=some v->(bz l)[i*2]?=some (ae v.1)/\(bz l)[i*2+1]?=some (ae v.2):=by
   intro l
   induction l with
   | nil=>intro i v b;simp at b
   | cons o l ih=>
    intro i v b;cases i with
    | zero=>simp at b;subst b;simp[bz,qG]
    | succ i=>
     have:=ih i v (by simpa using b);simp only[bz,bL,qG]at this ⊢;rw[show (i+1)*2=i*2+2 by omega,show i*2+2+1=(i*2+1)+2 by omega];simpa using this
  have e:∀k,k<vs.length*2->w.cell? ⟨g,a+k,none⟩=(bz vs)[k]? :=λk e=>by
   rw[<-n,jy,if_pos e,jx,nE];simp[World.cell?,f]
  refine⟨g,a,m,(aR.1 f).1,?_,?_⟩
  ·rw[e (i*2) (by omega)];exact(h vs i v c).1
  ·rw[show a+i*2+1=a+(i*2+1) by omega,e (i*2+1) (by omega)];exact(h vs i v c).2
def FU(N:Nat)(ms:List (Tm N))(w:ah)(e:Ending)(w':ah):Prop:=∃(ys:List (Tm N))(L:Nat)(a:ay)(c:Nat),e=aw (ag a L c)/\Hid (ys.length=L/\eH N 0 w.heap.size ys (ag a L c) w w'/\aN (λa b=>aJ N a N b) ys ms=true)
theorem IE(n N:Nat)(ms:List (Tm (N+1)))(vs:List Wd)(L:Nat)(ma:ay)(Z:Nat)(w:ah)(S:Hid (vs.length=L))(D:Hid (ms.length=L))(ad:L<=1000)(_hpw:n<w.heap.size)(aa:w.cell? ⟨n,7,none⟩=some (ag ma L Z))(Q:Hid (∀w1,ap w w1->∀(i:Nat)(v:Wd),vs[i]?=some v->∃g s,ma=some ⟨g,s,none⟩/\g<w.heap.size/\w1.cell? ⟨g,s+i*2,none⟩=some (ae v.1)/\w1.cell? ⟨g,s+i*2+1,none⟩=some (ae v.2)))(M:Hid (∀w1,ap w w1->∀(i:Nat)(v:Wd)(x:Tm (N+1)),vs[i]?=some v->ms[i]?=some x->au 134 #[aE n,.agg #[ae v.1,ae v.2]] w1 (nT (N+1) x w1))):au 94 #[aE n] w (FU (N+1) ms w):=by
 obtain⟨Y,hit,I,J,K⟩:=bS gM;have o:=av (⟨hit,I,J,K⟩:_/\_/\_/\_);clear hit I J K;go_enter func94,ntmps94;go_wp2_with fail;go_loopw [3,11] (λv i wr=>∃(k:Nat)(h:ay)(c:Nat)(j:List (Tm (N+1))),k<=L/\i=ae k/\v=ag h k c/\Hid (j.length=k/\eH (N+1) 0 w.heap.size j (ag h k c) w wr/\aN (λh b=>aJ (N+1) h (N+1) b) j (ms.take k)=true)) (λ_ i _=>L-(intOf i).toNat)
 case atStart=>exact⟨0,none,0,[],by omega,rfl,rfl,rfl,fD.nil _,by simp[aN]⟩
 case round=>
  obtain⟨k,h,c,j,ak,rfl,rfl,e⟩:=hrel;have l:Hid (ap w wr):=e.2.1.1;by_cases G:k<L;rotate_left
  ·obtain rfl:k=L:=by omega
   go_wp2_with fail
   go_ret
   refine⟨j,k,h,c,rfl,e.1,e.2.1,?_⟩;have m:=e.2.2;rw[bG (by rw[D.out];omega)]at m;exact m
  ·obtain⟨v,z⟩:∃v,vs[k]?=some v:=⟨vs[k]'(by rw[S.out];exact G),aU _⟩;obtain⟨x,A⟩:∃x,ms[k]?=some x:=⟨ms[k]'(by rw[D.out];exact G),aU _⟩;have R:=av A;have O:Hid (∀w1,ap w w1->au 134 #[aE n,.agg #[ae v.1,ae v.2]] w1 (nT (N+1) x w1)):=λw1 y=>M w1 y k v x z A;obtain⟨g,s,rfl,ai,d0,d1⟩:=Q wr l k v z;clear z A;have al:(0:Int)<=(k:Int):=by omega
   have an:(k:Int)<(L:Int):=by omega
   have aj:g<wr.heap.size:=by have:=l.size;omega
   go_wp2_with fail;refine(O _ (l.trans (aZ.mono l.size))).mono ?_;rintro ab d ⟨a,rfl,p⟩;rw[show dF (N+1) a=.agg #[ae a.1.1,ae a.1.2.1,af a.1.2.2,ag a.2.1.1 a.2.2.length a.2.1.2]from rfl];have u:Hid (ap wr d):=aZ.trans (p.1.mono (by simp));have f:Hid (ap wr (d.alloc (.cells #[ae a.1.1,ae a.1.2.1,af a.1.2.2,ag a.2.1.1 a.2.2.length a.2.1.2] 54))/\(d.alloc (.cells #[ae a.1.1,ae a.1.2.1,af a.1.2.2,ag a.2.1.1 a.2.2.length a.2.1.2] 54)).heap.size=d.heap.size+1/\(d.alloc (.cells #[ae a.1.1,ae a.1.2.1,af a.1.2.2,ag a.2.1.1 a.2.2.length a.2.1.2] 54)).heap[d.heap.size]?=some (.cells #[ae a.1.1,ae a.1.2.1,af a.1.2.2,ag a.2.1.1 a.2.2.length a.2.1.2] 54)/\In (d.alloc (.cells #[ae a.1.1,ae a.1.2.1,af a.1.2.2,ag a.2.1.1 a.2.2.length a.2.1.2] 54)).heap.size (d.alloc (.cells #[ae a.1.1,ae a.1.2.1,af a.1.2.2,ag a.2.1.1 a.2.2.length a.2.1.2] 54)) (N+1) a/\cF (λb=>b<0\/wr.heap.size<=b) (N+1) a):=by
    have m:ap d (d.alloc (.cells #[ae a.1.1,ae a.1.2.1,af a.1.2.2,ag a.2.1.1 a.2.2.length a.2.1.2] 54)):=aZ;refine⟨u.trans (m.mono u.size),by simp,aK _ _,(p.2.1.below m).mono m.size,p.2.2.1.mono λb y=>am ?_⟩;have:wr.heap.size+1<=b:=by simpa using y
    omega
   have B:=λ(r q:Nat)(w4:ah) X U T=>av (e.2.1.appAt (W:=(d.alloc (.cells #[ae a.1.1,ae a.1.2.1,af a.1.2.2,ag a.2.1.1 a.2.2.length a.2.1.2] 54))) (w4:=w4) (g:=r) (c:=q) e.1 (aM _) l.size f.1 a f.2.2.2.1 f.2.2.2.2 X U T);have C:=av (e.2.1.ownAt e.1 f.1);have ao:w.heap.size<=d.heap.size:=by have:=l.size;have:=u.size;omega
   clear d0 d1;go_wp2_with (at_builtin;refine wpList_append_lies _ rfl _ _ 52 rfl w.heap.size 54 Y _ 4 56 underlying52 o.1 o.2.1 o.2.2.1 o.2.2.2 rfl (by decide) (ag h k c) k (j.flatMap (kY (N+1))) (by simp[Act.eval]) C ⟨d.heap.size,0,none⟩ 1 1 (kY (N+1) a) (by simp[Act.eval]) rfl (World.news_of_block (cs:= #[ae a.1.1,ae a.1.2.1,af a.1.2.2,ag a.2.1.1 a.2.2.length a.2.1.2]) (t:=54) (fr:=(0,0)) f.2.2.1) (vi _ _) (by decide) (by unfold maxLen;omega) (by omega) (by have:=f.2.1;omega) (d.heap.size+1) f.2.1 ?_;intro r q w4 H F E V;have P:=B r q w4 H F (by rw[f.out.2.1];exact E);clear H F E V B C);go_roundw
   case rel=>
    refine⟨k+1,some ⟨r,0,none⟩,q,j++ [a],by omega,by go_num,rfl,by rw[bq,e.out.1];rfl,P,?_⟩;rw[dK,R.out];exact jr _ _ _ _ _ e.2.2 p.2.2.2
   case measure=>simp[intOf];omega
section
variable {base pb:Nat} {name:aq} {room:Int} {N:Nat} {s:Tm (N+1)} {ms:List (Tm (N+1))} {xs:List (Wd×Tm (N+1))} {nk:Nat} {M:aW} {w:ah} {ws:List Wd} {nm:bm} {sv:Wd} {vs:List Wd} {ma:ay} {mc:Nat} {Mh:aW}
theorem cV.state(a:cV base pb name room (N+1) s ms xs nk M w ws nm sv vs ma mc Mh)(f:nk<=95000):au 93 #[aE pb] w (nT (N+1) s w):=by
 obtain⟨k,h,j,d,_⟩:=a.heap.box;obtain⟨_,b,c,_,_,g⟩:=PL.cells d;exact FB pb N s sv w g b c λl e=>(a.later e).read f (i:=0) (by simp) (by simp)
theorem cV.mails(a:cV base pb name room (N+1) s ms xs nk M w ws nm sv vs ma mc Mh)(n:nk<=95000)(u:ms.length<=1000):au 94 #[aE pb] w (FU (N+1) ms w):=by
 obtain⟨y,v,x,k,_⟩:=a.heap.box;obtain⟨_,_,_,e,_,o⟩:=PL.cells k;have m:=a.len;refine IE pb N ms vs vs.length ma mc w rfl m.symm (by omega) o e (λt b i r c=>?_) (λt b i r z c p=>?_)
 ·obtain⟨j,q,f,d,g,h⟩:=a.mail.word c;exact⟨j,q,f,d,(aB b _ _ d).trans g,(aB b _ _ d).trans h⟩
 ·have l:=(bi.1 c).1;exact(a.later b).read n (i:=i+1) (by rw[fK,dz,dN l];exact c) (by rw[fK,dz,dN (by omega)];exact p)
end
theorem xK(ty:TypeId)(f:w.ownsRow base 184 2 v n xs)(z:fA w ps xa)(i:ps.length=m)(F:n+m<=200000)(u:base<=w.heap.size):∃a d w',(Builtin.append_ #[187,187] ty #[v,ag xa m xc]).run Tryz.prog w=.ok (ag a (n+m) d) w'/\w'.ownsRow base 184 2 (ag a (n+m) d) (n+m) (xs++bz ps)/\w.grownBy w' v.ownBlock/\((Value.slice a (n+m) d).ownBlock=v.ownBlock\/(Value.slice a (n+m) d).ownBlock=some w.heap.size):=by
 obtain⟨j,hit,A,B,C⟩:=bS lU;have p:∀{w':ah}{g:az}{k:Nat}{E:dH},w'.ownsRow base 184 2 g k E->∃l c,g=ag l k c:=λe=>by
  rcases e.2 with⟨rfl,rfl⟩|⟨q,cap,o,rfl,_⟩
  ·exact⟨none,0,rfl⟩
  ·exact⟨_,cap,rfl⟩
 rcases z with rfl|⟨ad,rfl,x⟩
 ·obtain rfl:m=0:=i.symm;obtain⟨b,cap,D,y⟩:∃b cap,v=ag b n cap/\n<=cap:=by
   rcases f.2 with⟨rfl,rfl⟩|⟨q,cap,o,rfl,_,_,e,_⟩
   ·exact⟨none,0,rfl,aA _⟩
   ·exact⟨_,cap,rfl,e⟩
  subst D;exact⟨b,cap,w,oH w _ _ ty _ _ j underlying187 underlying187 hit b xa n cap xc y,by simpa [bz]using f,gS _ _,ak rfl⟩
 ·obtain⟨g,w',r,h,s,_,t⟩:=run_append_own_at (P:=Tryz.prog) w base 187 ty 184 j _ 2 16 underlying187 hit A B C rfl (by decide) _ n xs f ad m xc (bz ps) (by rw[cP,i]) x (rI _) (by unfold maxLen;omega) (by omega) u;obtain⟨a,d,rfl⟩:=p h;exact⟨a,d,w',r,h,s,t⟩
theorem xh{d:Array Oper}{o:Oper}{a:Act}{E:Prop}(k:o.guard=none)(s x:Operand)(p:o.op=.call {callee:=.builtin .append,args:= #[s,x],argTypes:= #[187,187]})(t:a.eval s=v)(z:a.eval x=ag xa m xc)(q:w.ownsRow base 184 2 v n xs)(u:fA w ps xa)(l:ps.length=m)(h:n+m<=200000)(j:base<=w.heap.size)(i:∀b c w',w'.ownsRow base 184 2 (ag b (n+m) c) (n+m) (xs++bz ps)->w.grownBy w' v.ownBlock->((Value.slice b (n+m) c).ownBlock=v.ownBlock\/(Value.slice b (n+m) c).ownBlock=some w.heap.size)->K (a.put o.dst (ag b (n+m) c)) w'):if Region.wanted o (yielded d a.tmps)=true then Oper.wp Tryz.prog o a w K Q else E:=by
 have y:Region.wanted o (yielded d a.tmps)=true:=by simp[Region.wanted,k]
 rw[if_pos y];obtain⟨b,c,w',r,e,f,g⟩:=xK (xc:=xc) o.type q u l h j;unfold Oper.wp execOp;simp only[p,resolve,invoke,builtin,jE,jF,jD,jA,bA,dA,t,z,r];exact i _ _ _ e f g
theorem dZ.turn{name:aq}{g h:Wd}{mv:az}{M:aW}(j:dZ base (PL d name g mv) room ws nm M w)(k:cm (λb=>b=d) w w')(p:∀tv lv mp:az,w.heap[d]?=some (.cells #[af name,ae room,tv,lv,mp,ae g.1,ae g.2,mv] 195)->w'.heap[d]?=some (.cells #[af name,ae room,tv,lv,mp,ae h.1,ae h.2,u] 195)):dZ base (PL d name h u) room ws nm M w':=by
 obtain⟨tv,lv,mp,e,i,f,l,m,n,o⟩:=j;refine⟨tv,lv,mp,⟨⟨rfl,am rfl⟩,p tv lv mp e.2⟩,ez i k (λb a c=>?_),f.kept k (λb a c=>?_) (λb a c=>?_),l,m,n,o⟩
 ·subst c;exact oo i e (by decide) a
 ·subst c;exact oo f.1 e (by decide) a
 ·subst c;exact vb f e a
theorem kv.words(k:kv Mh ma vs d w):fA w vs ma:=by
 rcases k with⟨_,b,_⟩|⟨c,e,l,h,_,i,m,_,n,j⟩
 ·exact ak b
 ·refine am ⟨⟨c,e,none⟩,h,λg p f=>?_⟩;have o:=(bi.1 f).1;have a:=f;rw[<-j,jy]at a;split at a
  ·rw[jx,nE]at a;have b:(⟨c,e,none⟩:Addr).add g=⟨c,e+g,none⟩:=by unfold Addr.add;split<;>simp[*]
   rw[b];simp[World.cell?,i,a]
  ·cases a
theorem kM.tidied{a:List (Tm N)}(q:kM N ws nm room e a):kM N (kB ws N e).2.1 nm room (kB ws N e).1 a/\((kB ws N e).2.1.length:Int)=(a.map (sz N)).sum/\(kB ws N e).1.length=e.length:=by
 obtain⟨k,w,l,z,A,x,y,m⟩:=q;obtain⟨n,o,p⟩:=Fi m k w;have i:∀b∈a,aL ⟨N,b⟩:=λb f=>pI (l b f).1;have j:=o7 (λg ws nm d=>ik N g ws nm d) a [] nm i;have t:=Ct N a [] nm;have r:=wm (λg ws nm d=>As N g ws nm d) a [] nm i;have h:=il (bv N) a [] nm;rw[p]at j;rw[n,o];simp only[eV]at t;refine⟨⟨⟨h,λv C b u f=>?_⟩,r.1,l,by omega,by omega,x,y,m⟩,by omega,by rw[h,k.1]⟩;obtain⟨B,c,s⟩:=j v b f;rw[u]at c;injection c with c;rw[c];exact s
theorem nB(w:ah){q:Nat}(b:g≠q)(o:Nat)(v:az)(j:Nat):(w.setCell ⟨q,o,none⟩ v).cell? ⟨g,j,none⟩=w.cell? ⟨g,j,none⟩:=by
 refine bM ?_ j;have c:¬q=g:=λa=>b a.symm;simp[World.setCell,bR,c]
def wH(g L:Nat):ay:=if L=0 then some ⟨g,0,none⟩else some ⟨g,2,none⟩
def Dy(w:ah)(a:Nat)(b:Wd)(mv:az):ah:=((w.setCell ⟨a,5,none⟩ (ae b.1)).setCell ⟨a,5+1,none⟩ (ae b.2)).setCell ⟨a,7,none⟩ mv
theorem Js(d:Nat)(f:Wd)(vs:List Wd)(L:Nat)(ma:ay)(t:Nat)(w:ah)(Fin:Nat->Wd->ah->bF)(Q:Hid (vs.length=L))(T:L<=1000)(q:Hid (∀w1,ap w w1->ai w1 d 5 (ae f.1)/\ai w1 d (5+1) (ae f.2)/\ai w1 d 7 (ag ma L t)))(M:Hid (∀w1,ap w w1->fA w1 vs ma))(G:Hid (∀w1,ap w w1->∀(a:ay)(c:Nat),w1.ownsRow w.heap.size 184 2 (ag a (1+L) c) (1+L) (bz (f::vs))->au 232 #[.pointer (some ⟨d,1,none⟩),ag a (1+L) c] w1 λe w'=>∃(g:Nat)(h:Wd),e=aw (ax #[ag (some ⟨g,0,none⟩) (1+L) (1+L),ae 0])/\Hid ((ai w' g 0 (ae h.1)/\ai w' g 1 (ae h.2))/\g≠d/\(∃B C D,ai w' d 5 B/\ai w' d (5+1) C/\ai w' d 7 D)/\(∀j,w'.frozen? ⟨d,j,none⟩=false)/\Fin g h w1 w'))):au 213 #[aE d] w λe w'=>e=aw (ax #[])/\∃(g:Nat)(h:Wd)(w1 w2:ah),w'=(Dy w2 d h (ag (wH g L) L L)).drew/\Hid (ap w w1/\Fin g h w1 w2):=by
 obtain⟨N,O,P⟩:=q.out w (aG _ _);have H:Hid (ap w w.drew):=(aG _ _).drew;have k:Hid (ap w (w.alloc (.cells #[ae f.1,ae f.2] 184)).drew/\(w.alloc (.cells #[ae f.1,ae f.2] 184)).drew.ownsRow w.heap.size 184 2 (ag (some ⟨w.heap.size,0,none⟩) 1 1) 1 (qG f)):=by
  refine⟨by go_grown,rfl,am ⟨w.heap.size,1, #[ae f.1,ae f.2],rfl,aA _,sx w _ rfl,aA _,by unfold maxLen;omega,rfl,rfl⟩⟩
 go_enter func213,ntmps213;go_wp2_with fail
 go_region_held3 (λw'=>w'.cell? ⟨d,5,none⟩=some (ae f.1)/\w'.cell? ⟨d,5+1,none⟩=some (ae f.2)/\w'.cell? ⟨d,7,none⟩=some (ag ma L t)) (first|(go_keep;done)|with_reducible exact q _ H|with_reducible exact q _ k.1|exact q _ r)
  ((refine xh rfl _ _ rfl (base:=w.heap.size) (v:=ag (some ⟨w.heap.size,0,none⟩) 1 1) (n:=1) (m:=L) (xc:=t) (xs:=qG f) (ps:=vs) (xa:=ma) (by simp[Act.eval]) (by simp[Act.eval]) k.2 (M _ k.1) Q (by omega) (by have:=k.1.size;exact this) ?_;intro u x w2 A o R;have r:Hid (ap w w2):=(k.1.trans ⟨o.os,o.tape,o.output,o.size,λb S=>o.block b (bf S k.1.size) (λe=>by simp[Value.ownBlock]at e;omega)⟩);have K:=av (show w2.ownsRow w.heap.size 184 2 (ag u (1+L) x) (1+L) (bz (f::vs))from A);clear A o R))
 have F:=av (G w2 r u x K);clear N O P;go_wp2_with fail;refine F.mono ?_;rintro e i ⟨g,h,rfl,E⟩;obtain⟨⟨y,z⟩,l,⟨B,C,D,d5,d6,d7⟩,U,s⟩:=E;replace s:=av s;have W:(0:Int)<1+(L:Int):=by omega
 have X:(1:Int)<=1+(L:Int):=by omega
 have V:d≠g:=λe=>l e.symm;have I:Hid (∀a b:az,((i.setCell ⟨d,5,none⟩ a).setCell ⟨d,5+1,none⟩ b).cell? ⟨g,0,none⟩=some (ae h.1)/\((i.setCell ⟨d,5,none⟩ a).setCell ⟨d,5+1,none⟩ b).cell? ⟨g,1,none⟩=some (ae h.2)):=λa b=>by
  have p:∀j,((i.setCell ⟨d,5,none⟩ a).setCell ⟨d,5+1,none⟩ b).cell? ⟨g,j,none⟩=i.cell? ⟨g,j,none⟩:=λj=>(nB _ l _ _ j).trans (nB _ l _ _ j);exact⟨(p _).trans y,(p _).trans z⟩
 have J:Hid (∀a b c:az,(((i.setCell ⟨d,5,none⟩ a).setCell ⟨d,5+1,none⟩ b).setCell ⟨d,7,none⟩ c).cell? ⟨g,0,none⟩=some (ae h.1)/\(((i.setCell ⟨d,5,none⟩ a).setCell ⟨d,5+1,none⟩ b).setCell ⟨d,7,none⟩ c).cell? ⟨g,1,none⟩=some (ae h.2)):=λa b c=>by
  have p:∀j,(((i.setCell ⟨d,5,none⟩ a).setCell ⟨d,5+1,none⟩ b).setCell ⟨d,7,none⟩ c).cell? ⟨g,j,none⟩=i.cell? ⟨g,j,none⟩:=λj=>(nB _ l _ _ j).trans ((nB _ l _ _ j).trans (nB _ l _ _ j));exact⟨(p _).trans y,(p _).trans z⟩
 go_wp2_with fail;go_region_held3 (λw'=>w'.cell? ⟨g,0,none⟩=some (ae h.1)/\w'.cell? ⟨g,1,none⟩=some (ae h.2)) (first|(go_keep;done)|exact I _ _|exact J _ _ _) (fail);exact eF (v:=ax #[]) (by simp[results]) rfl ⟨rfl,g,h,w2,i,rfl,r,s⟩
theorem kM.front{t:List Wd}{f g:List (Tm N)}(m:kM N ws nm room (e++t) (f++g))(n:e.length=f.length):kM N ws nm room e f:=by
 obtain⟨i,d,j,k,p,q,r,s⟩:=m;refine⟨⟨n,λo u b h c=>i.2 o u b ?_ ?_⟩,?_,λb c=>j b (List.mem_append_left _ c),?_,p,q,r,s⟩
 ·rw[dN (bi.1 h).1];exact h
 ·rw[dN (bi.1 c).1];exact c
 ·rw[lC]at d;exact(fL.1 d).1
 ·rw[fu,nN]at k;have w:(0:Int)<=(g.map (sz N)).sum:=by
   clear i d k
   induction g with
   | nil=>simp
   | cons b l ih=>
    have x:=ih λv a=>j v (by simp only[du,cq]at a ⊢;rcases a with a|a<;>simp[a]);have y:=(fI N b).1;simp only[bA,dj];omega
  omega
theorem GL{N:Nat}:(l:List (Tm N))->(l.map λy=>1+sz N y).sum=l.length+(l.map (sz N)).sum
 | []=>by simp
 | y::l=>by
  have a:=GL l;simp only[bA,dj,bu,a];omega
theorem yJ{N:Nat}:(l:List (Tm N))->(∀y∈l,aL ⟨N,y⟩)->((l.flatMap λy=>aH N y).length:Int)<=(l.map λy=>1+sz N y).sum
 | [],_=>by simp
 | y::l,h=>by
  have c:=yJ l λb a=>h b (by simp[a]);have d:=wN N y (h y (by simp));simp only[bL,bq,bA,dj];omega
theorem kM.roots{a:List (Tm N)}(h:kM N ws nm room e a)(i:e.length<=1000):FV ws nm N e a:=by
 obtain⟨f,m,g,n,o,p,q,r⟩:=h;have d:∀b∈a,aL ⟨N,b⟩:=λb c=>pI (g b c).1;have j:=GL a;have k:=yJ a d;have l:=f.1;exact⟨f,d,λb c=>(g b c).2,by omega,by omega,i⟩
theorem E5(e:w.ownsRow base 184 2 (ag a n c) n (bz vs))(s:0<n):fi w vs a/\∀b o,a=some ⟨b,o,none⟩->b<w.heap.size:=by
 rcases e.2 with⟨d,q⟩|⟨h,cap,p,d,t,i,_⟩
 ·omega
 ·injection d with f r g;subst f g;have j:=(aR.1 i).1;refine⟨am ⟨h,0,rfl,j,λl m k=>?_⟩,λb o d=>?_⟩
  ·have:=jv e l m k;rw[cB];exact this
  ·injection d with d;injection d with d;omega
section
variable {base pb:Nat} {name:aq} {room:Int} {N:Nat} {s:Tm (N+1)} {ms:List (Tm (N+1))} {xs:List (Wd×Tm (N+1))} {nk:Nat} {M:aW} {w:ah} {ws:List Wd} {nm:bm} {sv:Wd} {vs:List Wd} {ma:ay} {mc:Nat} {Mh:aW}
theorem cV.front(a:cV base pb name room (N+1) s ms xs nk M w ws nm sv vs ma mc Mh):kM (N+1) ws nm room (sv::vs) (s::ms):=
 kM.front a.has (by simp[a.len])
theorem FK{w:ah}{pb:Nat}{c0 a b c d e f g:az}{t:TypeId}(sv:Wd)(mv:az)(h:w.heap[pb]?=some (.cells #[c0,a,b,c,d,e,f,g] t)):(Dy w pb sv mv).heap[pb]?=some (.cells #[c0,a,b,c,d,ae sv.1,ae sv.2,mv] t):=by
 unfold Dy World.setCell;simp[bR,h]
theorem JE(w:ah)(pb:Nat)(sv:Wd)(mv:az):cm (λb=>b=pb) w (Dy w pb sv mv).drew:=by
 have c:=bI w pb 5 (ae sv.1);have d:=bI (w.setCell ⟨pb,5,none⟩ (ae sv.1)) pb (5+1) (ae sv.2);have e:=bI ((w.setCell ⟨pb,5,none⟩ (ae sv.1)).setCell ⟨pb,5+1,none⟩ (ae sv.2)) pb 7 mv;have a:=(c.trans d λ_ _ k=>k).trans e λ_ _ k=>k;exact⟨a.os,a.tape,a.output,a.size,a.block⟩
def MF(base pb:Nat)(name:aq)(room:Int)(N:Nat)(s:Tm N)(ms:List (Tm N))(nk:Nat)(M:aW)(nm:bm)(w:ah)(e:Ending)(w':ah):Prop:=
 e=aw (ax #[])/\∃c g a f d,cV base pb name room N s ms [] nk (λb=>M b\/w.heap.size<=b) w' c nm g a f a.length d/\Hid (cm M w w'/\(c.length:Int)=((s::ms).map (sz N)).sum)
theorem cV.tidy(e:cV base pb name room (N+1) s ms xs nk M w ws nm sv vs ma mc Mh)(aH:nk<=95000)(aA:ms.length<=999)(aB:base<=w.heap.size):au 213 #[aE pb] w (MF base pb name room (N+1) s ms nk M nm w):=by
 have C:=e.front;have aF:=e.len;have ah:=e.names;have al:=C.roots (by simp only[bu];omega);obtain⟨L,ao,v⟩:=C.tidied;obtain⟨q,j,B⟩:∃q j,(kB ws (N+1) (sv::vs)).1=q::j:=by
  cases u:(kB ws (N+1) (sv::vs)).1 with
  | nil=>rw[u]at v;simp at v
  | cons n l=>exact⟨n,l,rfl⟩
 rw[B]at L v;simp only[bu]at v;have I:j.length=vs.length:=by omega
 obtain⟨_,_,_,_,aJ,_,aK,_⟩:=C;refine(Js pb sv vs vs.length ma mc w (λa m g r=>m=q/\zF base (PL pb name sv (ag ma vs.length mc)) room (kB ws (N+1) (sv::vs)) nm Mh a g r) rfl (by omega) ?_ ?_ ?_).mono ?_
 ·intro g f;obtain⟨R,P,aq,z,_⟩:=(e.later f).heap.box;obtain⟨_,U,V,W,_⟩:=PL.cells z;exact⟨U,V,W⟩
 ·intro g f;exact(e.later f).mail.words
 ·intro g f n c ai;have an:=f.size;obtain⟨ad,af⟩:=E5 ai (by omega);have ae:(sv::vs).length=1+vs.length:=by simp only[bu];omega
  have t:=Aq (N+1) (s::ms) (sv::vs) n c base (PL pb name sv (ag ma vs.length mc)) room ws nm Mh g (e.later f).heap al ad af (by omega) (by omega) (by omega);rw[ae]at t;refine t.mono ?_;rintro d r ⟨a,rfl,G⟩;have T:=G.out;obtain⟨E,Q,F,av,aw,x⟩:=T;obtain⟨R,P,aq,z,_⟩:=E.box;obtain⟨_,d5,d6,d7,d8,d9⟩:=PL.cells z;obtain⟨ax,ap,ar,A,_⟩:=(e.later f).heap.box;have aj:pb<g.heap.size:=(PL.cells A).2.2.2.2.2;refine⟨a,q,rfl,⟨?_,by omega,⟨_,_,_,d5,d6,d7⟩,d8,rfl,G⟩⟩;rw[B]at F;rcases F with d|⟨b,o,d,aC,aa⟩
  ·cases d
  ·injection d with d;injection d with k p;subst k p;have:=aa 0 q rfl;simpa using this
 ·rintro d aL ⟨rfl,a,m,g,r,rfl,S⟩;obtain⟨f,rfl,E,Q,F,av,aw,len,x⟩:=S;have an:=f.size;obtain⟨ax,ap,ar,A,_⟩:=(e.later f).heap.box;have aj:pb<g.heap.size:=(PL.cells A).2.2.2.2.2;have Y:Mh pb:=by
   obtain⟨_,_,_,_,_,_,i,_⟩:=e.heap;exact i
  have D:=JE r pb m (ag (wH a vs.length) vs.length vs.length);rw[B]at x;have ab:¬a=pb:=by omega
  refine⟨rfl,(kB ws (N+1) (sv::vs)).2.1,m,j,wH a vs.length,λb=>(Mh b\/g.heap.size<=b)/\b≠a,⟨?_,?_,?_,by omega,ah,?_,?_⟩,?_⟩
  ·rw[I];exact E.turn D λR P mp t=>FK m _ t
  ·rw[I];rcases x.2 with⟨d,ay⟩|⟨az,cap,y,d,_,u,aD,aG,aI,O⟩
   ·cases d
   ·injection d with k p X;injection k with k;injection k with k;subst k X;have J:(Dy r pb m (ag (wH a vs.length) vs.length vs.length)).drew.heap[a]?=some (.cells y 184 (0,0)):=(D.block a (aR.1 u).1 ab).trans u;have K:=x.1;rw[cP]at K;simp only[bu]at K;refine am ?_;by_cases H:vs.length=0
    ·refine⟨a,0,y,by simp[wH,H],by simp,J,by omega,by unfold maxLen;omega,by omega,?_⟩;have:j=[]:=List.length_eq_zero_iff.1 (by omega);simp[this,bz]
    ·refine⟨a,2,y,by simp[wH,H],by simp,J,by omega,by omega,by omega,?_⟩;have d:len*2=2+j.length*2:=by omega
     rw[d]at O;have p:=congrArg (List.drop 2) O;rw[List.drop_take,show 2+j.length*2-2=j.length*2 from by omega]at p;exact p
  ·simpa using L
  ·intro b Z;rcases Z.1 with i|i
   ·exact ak (e.inM b i)
   ·exact am (by omega)
  ·intro n h;have:n.block=a:=by
    unfold wH at h;split at h
    ·injection h with h;rw[<-h]
    ·injection h with h;rw[<-h]
   exact am (by omega)
  ·refine⟨?_,ao⟩;refine cm.trans ((bB f M).trans (Q.mono e.inM) λ_ _ i=>i) D λb _ i=>?_;rw[i];exact e.inM pb Y
end
def Up(n:Nat)(w0 w1:ah):Prop:=w0.heap.size<=w1.heap.size/\∀b,n<=b->b<n+3->b<w0.heap.size->w1.heap[b]?=w0.heap[b]?
theorem wY(w:ah){q:Nat}(c:b≠q)(o:Nat)(v:az):(w.setCell ⟨q,o,none⟩ v).heap[b]?=w.heap[b]? :=by
 have d:¬q=b:=λa=>c a.symm;simp[World.setCell,bR,d]
def wR(w:ah)(g:Nat)(a b:az):ah:=(w.setCell ⟨g,0,none⟩ a).setCell ⟨g,0+1,none⟩ b
theorem mf(a:b≠g)(x y:az):(wR w g x y).heap[b]?=w.heap[b]? :=(wY _ a _ _).trans (wY _ a _ _)
theorem Jb(w:ah)(g:Nat)(x y:az):(wR w g x y).heap.size=w.heap.size:=by simp[wR,World.setCell]
theorem CX(aj:Nat)(k i:Int)(t:aq)(h:ay)(l j:Nat)(w:ah)(O:Wd->Int->ah->bF)(al:ah->bF)(aL:Wd->Int->ah->bF)(aN:Hid (∀w0,ap w w0->au 123 #[.pointer (some ⟨aj,1,none⟩),.agg #[ae k,ae i,af t,ag h l j]] w0 λe w1=>∃(v:Wd)(g:Int),e=aw (ax #[.agg #[ae v.1,ae v.2],ae g])/\Hid (Up w.heap.size w0 w1/\O v g w0 w1)))(aP:Hid (∀v1 w0 w1 w2,ap w w0->O v1 6 w0 w1->cm (λb=>w.heap.size<=b/\b<w0.heap.size) w1 w2->w.heap.size+3<=w2.heap.size->au 213 #[aE aj] w2 λe d=>e=aw (ax #[])/\Hid (Up w.heap.size w2 d/\al w2 d)))(aO:Hid (∀w2 d N,al w2 d->w.heap.size+3<=w2.heap.size->ap d N->au 123 #[.pointer (some ⟨aj,1,none⟩),.agg #[ae k,ae i,af t,ag h l j]] N λe w4=>∃(v:Wd)(g:Int),e=aw (ax #[.agg #[ae v.1,ae v.2],ae g])/\Hid (Up w.heap.size N w4/\aL v g N w4))):au 185 #[aE aj,.agg #[ae k,ae i,af t,ag h l j]] w λe w'=>∃(v:Wd)(g:Int),e=aw (ax #[.agg #[ae v.1,ae v.2],ae g])/\ ((g≠6/\∃w0 w1,ap w w0/\O v g w0 w1/\cm (λb=>w.heap.size<=b/\b<w0.heap.size) w1 w')\/∃v1 w0 w1 w2 d N w4,ap w w0/\O v1 6 w0 w1/\cm (λb=>w.heap.size<=b/\b<w0.heap.size) w1 w2/\w.heap.size+3<=w2.heap.size/\al w2 d/\ap d N/\aL v g N w4/\cm (λb=>b=w.heap.size+1) w4 w'):=by
 go_enter func185,ntmps185;go_wp2_with fail;have R:=av (kZ w (.cells #[ae k,ae i,af t,ag h l j] 54) (.cells #[ae 0,ae 0] 184));have m:Hid (ap w ((w.alloc (.cells #[ae k,ae i,af t,ag h l j] 54)).alloc (.cells #[ae 0,ae 0] 184))/\((w.alloc (.cells #[ae k,ae i,af t,ag h l j] 54)).alloc (.cells #[ae 0,ae 0] 184)).heap.size=w.heap.size+1+1):=⟨by go_grown,by simp⟩;generalize aQ:(w.alloc _).alloc _=c;rw[aQ]at R m;clear aQ;have F:Hid (∀w':ah,w'.heap[w.heap.size]?=c.heap[w.heap.size]? ->ai w' w.heap.size 0 (ae k)/\ai w' w.heap.size 1 (ae i)/\ai w' w.heap.size 2 (af t)/\ai w' w.heap.size 3 (ag h l j)):=λw' T=>by
  have f:=T.trans R.1;exact⟨aC f 0,aC f 1,aC f 2,aC f 3⟩
 obtain⟨aW,aX,aY,a0⟩:=F.out c rfl;have u:Hid (ap c c.drew/\c.drew.heap[w.heap.size]?=c.heap[w.heap.size]?):=⟨(aG _ _).drew,rfl⟩;have Q:Hid (ap c (c.alloc (.cells #[ae 0,ae 0] 184)).drew/\(c.alloc (.cells #[ae 0,ae 0] 184)).drew.heap[w.heap.size]?=c.heap[w.heap.size]?):=by
  have T:ap c (c.alloc (.cells #[ae 0,ae 0] 184)).drew:=by go_grown
  exact⟨T,T.block _ (by have:=m.2;omega)⟩
 have ar:Hid ((c.alloc (.cells #[ae 0,ae 0] 184)).drew.heap[c.heap.size]?=some (.cells #[ae 0,ae 0] 184)/\(c.alloc (.cells #[ae 0,ae 0] 184)).drew.heap.size=c.heap.size+1):=⟨sx c _ rfl,by simp⟩
 go_region_held3 (λw'=>w'.cell? ⟨w.heap.size,0,none⟩=some (ae k)/\w'.cell? ⟨w.heap.size,1,none⟩=some (ae i)/\w'.cell? ⟨w.heap.size,2,none⟩=some (af t)/\w'.cell? ⟨w.heap.size,3,none⟩=some (ag h l j)) (first|(go_keep;done)|with_reducible exact F _ u.2|with_reducible exact F _ Q.2|exact F _ P|exact F _ (ab _)|exact F _ (an _ _)|exact F _ (aM _ _ _))
  ((first
   | (go_at_call 123;refine(aN _ (m.1.trans (u.1.mono m.1.size))).mono ?_;rintro e w1 ⟨v,g,rfl,p⟩;have P:Hid (w1.heap[w.heap.size]?=c.heap[w.heap.size]?):=(p.1.2 _ (aA _) (by omega) (by have f:=u.1.size;have s:=m.2;omega)).trans u.2;have ab:Hid (∀o:Obj,(w1.alloc o).heap[w.heap.size]?=c.heap[w.heap.size]?):=λo=>(gZ w1 o (by have f:=p.1.1;have s:=u.1.size;have ad:=m.2;omega)).trans P;have aM:Hid (∀(o:Obj)(n b:az),(wR (w1.alloc o) w1.heap.size n b).heap[w.heap.size]?=c.heap[w.heap.size]?):=λo n b=>(mf (by have f:=p.1.1;have s:=u.1.size;have ad:=m.2;omega) n b).trans (ab o))
   | (go_at_call 123;refine(aN _ (m.1.trans (Q.1.mono m.1.size))).mono ?_;rintro e w1 ⟨v,g,rfl,p⟩;have P:Hid (w1.heap[w.heap.size]?=c.heap[w.heap.size]?):=(p.1.2 _ (aA _) (by omega) (by have f:=Q.1.size;have s:=m.2;omega)).trans Q.2;have X:Hid (w1.heap[c.heap.size]?=some (.cells #[ae 0,ae 0] 184)):=(p.1.2 c.heap.size (by have s:=m.2;omega) (by have s:=m.2;omega) (by have s:=ar.2;omega)).trans ar.1;have aT:ai w1 c.heap.size 0 (ae 0):=aC X 0;have aU:ai w1 c.heap.size 1 (ae 0):=aC X 1;have aV:=λz=>dr X z;have an:Hid (∀n b:az,(wR w1 c.heap.size n b).heap[w.heap.size]?=c.heap[w.heap.size]?):=λn b=>(mf (by have ad:=m.2;omega) n b).trans P)))
 ·have V:Hid (∃w0 r w2,(r=w1.heap.size/\w2=w1.alloc (.cells #[ae v.1,ae v.2] 184))/\ap w w0/\O v g w0 w1/\cm (λb=>w.heap.size<=b/\b<w0.heap.size) w1 w2/\w.heap.size+3<=w2.heap.size/\w2.heap[w.heap.size]?=some (.cells #[ae k,ae i,af t,ag h l j] 54)/\w2.heap[w.heap.size+1]?=some (.cells #[ae 0,ae 0] 184)/\w2.heap[r]?=some (.cells #[ae v.1,ae v.2] 184)/\w.heap.size+1≠r/\w.heap.size+2<=w0.heap.size):=by
    have f:=p.1.1;have s:=u.1.size;have ad:=m.2;have aB:∀b,b<w1.heap.size->(w1.alloc (.cells #[ae v.1,ae v.2] 184)).heap[b]?=w1.heap[b]? :=λb aS=>gZ w1 _ aS;refine⟨c.drew,_,_,⟨rfl,rfl⟩,m.1.trans (u.1.mono m.1.size),p.2,bB aZ _,by simp only[fO];omega,(ab _).trans R.1,?_,aK _ _,by omega,by omega⟩;exact(aB _ (by omega)).trans ((p.1.2 _ (by omega) (by omega) (by omega)).trans ((u.1.block _ (by omega)).trans R.2))
  obtain⟨w0,r,w2,⟨S,J⟩,a⟩:=V.out;rw[<-S,<-J];replace a:=av a;clear S J V ab aM P p;have aI:ai w2 r 0 (ae v.1):=aC a.2.2.2.2.2.2.1 0;have aJ:ai w2 r 1 (ae v.2):=aC a.2.2.2.2.2.2.1 1;have A:w2.cell? ⟨w.heap.size+1,0,none⟩=some (ae 0):=aC a.2.2.2.2.2.1 0;have B:w2.cell? ⟨w.heap.size+1,1,none⟩=some (ae 0):=aC a.2.2.2.2.2.1 1;have aa:=λz=>dr a.2.2.2.2.2.1 z;by_cases K:g=6;rotate_left
  ·have aR:¬(6:Int)=g:=λe=>K e.symm;go_wp2_with fail;refine aD (v:=ax #[.agg #[ae v.1,ae v.2],ae g]) (by simp[results,results185,go_sem,A,B]) rfl ?_;obtain⟨G,H,I,_,_,_,_,_,Y⟩:=a.out;refine⟨v,g,rfl,ak ⟨K,w0,w1,G,H,cm.trans I ((bI w2 (w.heap.size+1) 0 _).trans (bI _ (w.heap.size+1) _ _) λ_ _ e=>e) λb _ e=>?_⟩⟩;subst e;omega
  ·subst K;have W:=av (aP v w0 w1 w2 a.1 a.2.1 a.2.2.1 a.2.2.2.1);go_wp2_with fail;refine W.mono ?_;rintro e d ⟨rfl,C⟩;clear aI aJ A B aa W;have q:Hid (d.heap[w.heap.size]?=some (.cells #[ae k,ae i,af t,ag h l j] 54)/\d.heap[w.heap.size+1]?=some (.cells #[ae 0,ae 0] 184)/\w.heap.size+3<=d.heap.size):=by
    have aH:=a.2.2.2.1;have L:=C.1;exact⟨(L.2 _ (by omega) (by omega) (by omega)).trans a.2.2.2.2.1,(L.2 _ (by omega) (by omega) (by omega)).trans a.2.2.2.2.2.1,aF aH L.1⟩
   have x:Hid (ap d d.drew):=(aG _ _).drew;have y:Hid (∀w':ah,w'.heap[w.heap.size]?=some (.cells #[ae k,ae i,af t,ag h l j] 54)->ai w' w.heap.size 0 (ae k)/\ai w' w.heap.size 1 (ae i)/\ai w' w.heap.size 2 (af t)/\ai w' w.heap.size 3 (ag h l j)):=λw' f=>⟨aC f 0,aC f 1,aC f 2,aC f 3⟩;obtain⟨t0,t1,t2,t3⟩:=y.out d q.1;go_wp2_with fail
   go_region_held3 (λw'=>w'.cell? ⟨w.heap.size,0,none⟩=some (ae k)/\w'.cell? ⟨w.heap.size,1,none⟩=some (ae i)/\w'.cell? ⟨w.heap.size,2,none⟩=some (af t)/\w'.cell? ⟨w.heap.size,3,none⟩=some (ag h l j)) (first|(go_keep;done)|exact y _ q.1|exact y _ U|exact y _ (ao _ _))
    ((go_at_call 123;refine(aO w2 d _ C.2 a.2.2.2.1 x).mono ?_;rintro e w4 ⟨M,Z,rfl,D⟩;have U:Hid (w4.heap[w.heap.size]?=some (.cells #[ae k,ae i,af t,ag h l j] 54)):=(D.1.2 _ (aA _) (by omega) (by have f:=q.2.2;have s:=x.size;omega)).trans q.1;have E:Hid (w4.heap[w.heap.size+1]?=some (.cells #[ae 0,ae 0] 184)):=(D.1.2 (w.heap.size+1) (by omega) (by omega) (by have f:=q.2.2;have s:=x.size;omega)).trans q.2.1;have A:w4.cell? ⟨w.heap.size+1,0,none⟩=some (ae 0):=aC E 0;have B:w4.cell? ⟨w.heap.size+1,1,none⟩=some (ae 0):=aC E 1;have aa:=λz=>dr E z;have ao:Hid (∀n b:az,(wR w4 (w.heap.size+1) n b).heap[w.heap.size]?=some (.cells #[ae k,ae i,af t,ag h l j] 54)):=λn b=>(mf (by omega) n b).trans U))
   go_wp2_with fail;refine aD (v:=ax #[.agg #[ae M.1,ae M.2],ae Z]) (by simp[results,results185,go_sem,A,B]) rfl ?_;obtain⟨G,H,I,Y,_⟩:=a.out;exact⟨M,Z,rfl,am ⟨v,w0,w1,w2,d,d.drew,w4,G,H,I,Y,C.2,x,D.2,(bI w4 (w.heap.size+1) 0 _).trans (bI _ (w.heap.size+1) _ _) λ_ _ e=>e⟩⟩
 ·have V:Hid (∃w0 r w2,(r=c.heap.size/\w2=wR w1 c.heap.size (ae v.1) (ae v.2))/\ap w w0/\O v g w0 w1/\cm (λb=>w.heap.size<=b/\b<w0.heap.size) w1 w2/\w.heap.size+3<=w2.heap.size/\w2.heap[w.heap.size]?=some (.cells #[ae k,ae i,af t,ag h l j] 54)/\w2.heap[w.heap.size+1]?=some (.cells #[ae 0,ae 0] 184)/\w2.heap[r]?=some (.cells #[ae v.1,ae v.2] 184)/\w.heap.size+1≠r/\w.heap.size+2<=w0.heap.size):=by
    have f:=p.1.1;have s:=ar.2;have ad:=m.2;have aB:cm (λb=>w.heap.size<=b/\b<(c.alloc (.cells #[ae 0,ae 0] 184)).drew.heap.size) w1 (wR w1 c.heap.size (ae v.1) (ae v.2)):=((bI w1 c.heap.size 0 _).trans (bI _ c.heap.size _ _) λ_ _ e=>e).mono λb e=>by subst e;omega
    refine⟨_,_,_,⟨rfl,rfl⟩,m.1.trans (Q.1.mono m.1.size),p.2,aB,by rw[Jb];omega,(an _ _).trans R.1,?_,?_,by omega,by omega⟩
    ·exact(mf (by omega) _ _).trans ((p.1.2 _ (by omega) (by omega) (by omega)).trans ((Q.1.block _ (by omega)).trans R.2))
    ·have T:=X.out;unfold wR World.setCell;simp[bR,T]
  obtain⟨w0,r,w2,⟨S,J⟩,a⟩:=V.out;unfold wR at J;rw[<-S];rw[<-S]at J;rw[<-J];replace a:=av a;clear S J V an P p X aT aU aV;have aI:ai w2 r 0 (ae v.1):=aC a.2.2.2.2.2.2.1 0;have aJ:ai w2 r 1 (ae v.2):=aC a.2.2.2.2.2.2.1 1;have A:w2.cell? ⟨w.heap.size+1,0,none⟩=some (ae 0):=aC a.2.2.2.2.2.1 0;have B:w2.cell? ⟨w.heap.size+1,1,none⟩=some (ae 0):=aC a.2.2.2.2.2.1 1;have aa:=λz=>dr a.2.2.2.2.2.1 z;by_cases K:g=6;rotate_left
  ·have aR:¬(6:Int)=g:=λe=>K e.symm;go_wp2_with fail;refine aD (v:=ax #[.agg #[ae v.1,ae v.2],ae g]) (by simp[results,results185,go_sem,A,B]) rfl ?_;obtain⟨G,H,I,_,_,_,_,_,Y⟩:=a.out;refine⟨v,g,rfl,ak ⟨K,w0,w1,G,H,cm.trans I ((bI w2 (w.heap.size+1) 0 _).trans (bI _ (w.heap.size+1) _ _) λ_ _ e=>e) λb _ e=>?_⟩⟩;subst e;omega
  ·subst K;have W:=av (aP v w0 w1 w2 a.1 a.2.1 a.2.2.1 a.2.2.2.1);go_wp2_with fail;refine W.mono ?_;rintro e d ⟨rfl,C⟩;clear aI aJ A B aa W;have q:Hid (d.heap[w.heap.size]?=some (.cells #[ae k,ae i,af t,ag h l j] 54)/\d.heap[w.heap.size+1]?=some (.cells #[ae 0,ae 0] 184)/\w.heap.size+3<=d.heap.size):=by
    have aH:=a.2.2.2.1;have L:=C.1;exact⟨(L.2 _ (by omega) (by omega) (by omega)).trans a.2.2.2.2.1,(L.2 _ (by omega) (by omega) (by omega)).trans a.2.2.2.2.2.1,aF aH L.1⟩
   have x:Hid (ap d d.drew):=(aG _ _).drew;have y:Hid (∀w':ah,w'.heap[w.heap.size]?=some (.cells #[ae k,ae i,af t,ag h l j] 54)->ai w' w.heap.size 0 (ae k)/\ai w' w.heap.size 1 (ae i)/\ai w' w.heap.size 2 (af t)/\ai w' w.heap.size 3 (ag h l j)):=λw' f=>⟨aC f 0,aC f 1,aC f 2,aC f 3⟩;obtain⟨t0,t1,t2,t3⟩:=y.out d q.1;go_wp2_with fail
   go_region_held3 (λw'=>w'.cell? ⟨w.heap.size,0,none⟩=some (ae k)/\w'.cell? ⟨w.heap.size,1,none⟩=some (ae i)/\w'.cell? ⟨w.heap.size,2,none⟩=some (af t)/\w'.cell? ⟨w.heap.size,3,none⟩=some (ag h l j)) (first|(go_keep;done)|exact y _ q.1|exact y _ U|exact y _ (ao _ _))
    ((go_at_call 123;refine(aO w2 d _ C.2 a.2.2.2.1 x).mono ?_;rintro e w4 ⟨M,Z,rfl,D⟩;have U:Hid (w4.heap[w.heap.size]?=some (.cells #[ae k,ae i,af t,ag h l j] 54)):=(D.1.2 _ (aA _) (by omega) (by have f:=q.2.2;have s:=x.size;omega)).trans q.1;have E:Hid (w4.heap[w.heap.size+1]?=some (.cells #[ae 0,ae 0] 184)):=(D.1.2 (w.heap.size+1) (by omega) (by omega) (by have f:=q.2.2;have s:=x.size;omega)).trans q.2.1;have A:w4.cell? ⟨w.heap.size+1,0,none⟩=some (ae 0):=aC E 0;have B:w4.cell? ⟨w.heap.size+1,1,none⟩=some (ae 0):=aC E 1;have aa:=λz=>dr E z;have ao:Hid (∀n b:az,(wR w4 (w.heap.size+1) n b).heap[w.heap.size]?=some (.cells #[ae k,ae i,af t,ag h l j] 54)):=λn b=>(mf (by omega) n b).trans U))
   go_wp2_with fail;refine aD (v:=ax #[.agg #[ae M.1,ae M.2],ae Z]) (by simp[results,results185,go_sem,A,B]) rfl ?_;obtain⟨G,H,I,Y,_⟩:=a;exact⟨M,Z,rfl,am ⟨v,w0,w1,w2,d,d.drew,w4,G,H,I,Y,C.2,x,D.2,(bI w4 (w.heap.size+1) 0 _).trans (bI _ (w.heap.size+1) _ _) λ_ _ e=>e⟩⟩
theorem kM.lay{q:List (Tm N)}(t:kM N ws nm room e q)(x:Tm N)(j:bK N x=0/\aX N x=true/\sz N x<=room-ws.length)(y:(bv N x ws nm).2.2.Nodup):kM N (bv N x ws nm).2.1 (bv N x ws nm).2.2 room (e++ [(bv N x ws nm).1]) (q++ [x]):=by
 obtain⟨f,A,B,K,L,C,D,M⟩:=t;have n:=pI j.1;obtain⟨p,F⟩:=ng N x ws nm;have z:=ik N x ws nm n;have m:=As N x ws nm n;have J:=(jf N x ws nm).1;have l:∀c∈e,pT (bv N x ws nm).2.1 N c=pT ws N c/\∀E∈pT ws N c,E<ws.length:=λc i=>by
  obtain⟨g,_,o⟩:=f.mem i;exact⟨sG p N g c o,AE N g c o⟩
 refine⟨⟨by simp[f.1],λk G g d a=>?_⟩,?_,λg a=>?_,?_,by omega,C,D,y⟩
 ·rcases Nat.lt_or_ge k e.length with h|h
  ·rw[dN h]at d;rw[dN (by rw[<-f.1];exact h)]at a;exact(f.2 k G g d a).mono p F
  ·rw[fq h]at d;rw[fq (by rw[<-f.1];exact h)]at a;have s:k-e.length=0:=by
    have:=(bi.1 d).1;simp at this;omega
   rw[<-f.1]at a;rw[s]at d a;simp only[dm,iu]at d a;rw[<-d,<-a];exact z
 ·rw[lC,nY (λc i=>(l c i).1)];simp only[bL,List.flatMap_nil,eE];refine fL.2 ⟨A,m.1,λr u b w=>?_⟩;obtain⟨c,i,v⟩:=kp.1 u;have H:=(l c i).2 r v;have I:=m.2 b w;omega
 ·rcases du.1 a with a|a
  ·exact B g a
  ·rw[dO.1 a];exact⟨j.1,j.2.1⟩
 ·simp only[fu,nN,bA,dA,dj,List.sum_nil];omega
def tG(N:Nat)(x:Tm N)(room:Int)(a:List (Tm N)):Int:=if bK N x≠0 then bK N x else if aX N x=false then 5 else if (a.map (sz N)).sum+sz N x<=room then 0 else 6
theorem Fg{x:Tm N}{e:List (Tm N)}(c:jm N x room ws≠6)(f:(e.map (sz N)).sum<=(ws.length:Int)):tG N x room e=jm N x room ws:=by
 unfold tG jm at*;by_cases a:bK N x≠0
 ·simp[a]
 ·by_cases b:aX N x=false
  ·simp[a,b]
  ·rw[if_neg a,if_neg b]at c;rw[if_neg a,if_neg a,if_neg b,if_neg b];by_cases d:sz N x<=room-ws.length
   ·rw[if_pos (by omega)];simp[d]
   ·simp[d]at c
theorem Ff{x:Tm N}{a:List (Tm N)}(e:(ws.length:Int)=(a.map (sz N)).sum):tG N x room a=jm N x room ws:=by
 unfold tG jm;have b:((a.map (sz N)).sum+sz N x<=room)=(sz N x<=room-ws.length):=by rw[e];exact propext ⟨λd=>by omega,λd=>by omega⟩
 by_cases c:sz N x<=room-ws.length
 ·simp[c,b]
 ·simp[c,b]
section
variable {base pb:Nat} {name:aq} {room:Int} {N:Nat} {s:Tm (N+1)} {ms:List (Tm (N+1))} {xs:List (Wd×Tm (N+1))} {nk:Nat} {M:aW} {w:ah} {ws:List Wd} {nm:bm} {sv:Wd} {vs:List Wd} {ma:ay} {mc:Nat} {Mh:aW}
theorem cV.kept(a:cV base pb name room (N+1) s ms xs nk M w ws nm sv vs ma mc Mh){S:aW}{w1:ah}(k:cm S w w1)(g:∀b,M b->b<w.heap.size->¬S b):cV base pb name room (N+1) s ms xs nk M w1 ws nm sv vs ma mc Mh:=by
 refine⟨a.heap.kept k λb m c=>g b (a.inM b m) c,?_,a.has,a.len,a.names,a.inM,a.mailM⟩;rcases a.mail with i|⟨d,n,h,e,j,f,l⟩
 ·exact ak i
 ·have c:=(aR.1 f).1;exact am ⟨d,n,h,e,j,(k.block d c (g d (a.mailM _ e) c)).trans f,l⟩
theorem cV.mono(a:cV base pb name room (N+1) s ms xs nk M w ws nm sv vs ma mc Mh){M':aW}{nk':Nat}(c:∀b,M b->M' b)(g:nk<=nk'):cV base pb name room (N+1) s ms xs nk' M' w ws nm sv vs ma mc Mh:=
 ⟨a.heap,a.mail,a.has,a.len,aF a.names g,λb f=>c b (a.inM b f),λd e=>c _ (a.mailM d e)⟩
theorem cV.inside(a:cV base pb name room (N+1) s ms xs nk M w ws nm sv vs ma mc Mh):cV base pb name room (N+1) s ms xs nk (λb=>M b/\b<w.heap.size) w ws nm sv vs ma mc (λb=>Mh b/\b<w.heap.size):=by
 refine⟨a.heap.inside,?_,a.has,a.len,a.names,λb k=>⟨a.inM b k.1,k.2⟩,λm c=>⟨a.mailM m c,?_⟩⟩
 ·rcases a.mail with d|⟨j,l,g,e,h,f,i⟩
  ·exact ak d
  ·exact am ⟨j,l,g,e,λn=>h n.1,f,i⟩
 ·rcases a.mail with⟨d,_⟩|⟨j,l,g,e,h,f,i⟩
  ·rw[d]at c;cases c
  ·rw[e]at c;injection c with c;rw[<-c];exact(aR.1 f).1
def zJ(N:Nat)(x:Tm N)(base:Nat)(b:cQ)(room:Int)(ws:List Wd)(nm:bm)(M:aW)(v:Wd)(a:Int)(w w':ah):Prop:=
 a=jm N x room ws/\(a≠0->v=(0,0)/\ap w w')/\(a=0->(bK N x=0/\aX N x=true/\sz N x<=room-ws.length)/\v=(bv N x ws nm).1/\mP base b room (bv N x ws nm).2.1 (bv N x ws nm).2.2 M w w')
theorem AH{N:Nat}{x:Tm N}{h:cQ}{e:Ending}{w w':ah}(g:JV N x base h room ws nm M w e w'):∃(v:Wd)(f:Int),e=aw (ax #[.agg #[ae v.1,ae v.2],ae f])/\zJ N x base h room ws nm M v f w w':=by
 by_cases a:jm N x room ws=0
 ·obtain⟨b,c,i⟩:=g.2 a;exact⟨_,0,c,a.symm,λd=>absurd rfl d,λ_=>⟨b,rfl,i⟩⟩
 ·obtain⟨b,c⟩:=g.1 a;exact⟨(0,0),_,b,rfl,λ_=>⟨rfl,c⟩,λd=>absurd d a⟩
theorem dZ.nodup{c:cQ}(a:dZ base c room ws nm M w):nm.Nodup:=by
 obtain⟨_,_,_,_,_,b,_⟩:=a;exact b.2.1
theorem cV.put1(d:cV base pb name room (N+1) s ms [] nk M w ws nm sv vs ma mc Mh){x:Tm (N+1)}{v:Wd}{e:Int}{w':ah}(t:zJ (N+1) x base (PL pb name sv (ag ma vs.length mc)) room ws nm Mh v e w w'):∃A z m,cV base pb name room (N+1) s ms (if e=0 then [(v,x)]else []) (nk+201) (λb=>M b\/w.heap.size<=b) w' A z sv vs ma mc m/\cm M w w':=by
 obtain⟨f1,f2,f3⟩:=t;by_cases f:e=0
 ·obtain⟨c,rfl,k,l⟩:=f3 f;rw[if_pos f];have D:=(jf (N+1) x ws nm).2;have C:=jP c.1;have B:=d.names;refine⟨_,_,λb=>Mh b\/w.heap.size<=b,⟨k,?_,?_,d.len,by omega,?_,λn r=>ak (d.mailM n r)⟩,l.mono d.inM⟩
  ·rcases d.mail with p|⟨j,y,o,e,h,i,q⟩
   ·exact ak p
   ·have u:=(aR.1 i).1;refine am ⟨j,y,o,e,λa=>?_,(l.block j u h).trans i,q⟩;rcases a with a|a
    ·exact h a
    ·omega
  ·have:=d.has;simp only[dA,eE]at this;exact this.lay x c k.nodup
  ·intro b g;rcases g with a|a
   ·exact ak (d.inM b a)
   ·exact am a
 ·obtain⟨_,g⟩:=f2 f;rw[if_neg f];exact⟨ws,nm,Mh,(d.later g).mono (λb a=>ak a) (by omega),bB g M⟩
def QC(base pb:Nat)(name:aq)(room:Int)(N:Nat)(s:Tm N)(ms:List (Tm N))(x:Tm N)(nk:Nat)(M:aW)(w:ah)(e:Ending)(w':ah):Prop:=
 ∃a:Wd,e=aw (ax #[.agg #[ae a.1,ae a.2],ae (tG N x room (s::ms))])/\Hid (∃j g h i d f c,cV base pb name room N s ms (if tG N x room (s::ms)=0 then [(a,x)]else []) (nk+201) (λb=>M b\/w.heap.size<=b) w' j g h i d f c/\cm M w w')
theorem cV.put(y:cV base pb name room (N+1) s ms [] nk M w ws nm sv vs ma mc Mh)(x:Tm (N+1))(ad:In w.heap.size w (N+1) x)(az:cF (λb=>¬M b) (N+1) x)(ao:(aH (N+1) x).length<=2097152)(G:∀b,M b->b<w.heap.size)(aQ:nk<=94000)(aj:ms.length<=999)(aO:base<=w.heap.size):au 185 #[aE pb,dF (N+1) x] w (QC base pb name room (N+1) s ms x nk M w):=by
 have aP:=y.len;have aR:=y.names;have aq:=y.front;obtain⟨_,_,_,aG,aU,aI,aJ,_⟩:=aq;have Z:=In.offB az ad
 have aa:∀{f:ah}{D:List Wd}{B:Wd}{C:List Wd}{z:ay}{A:Nat}{q P:aW},cV base pb name room (N+1) s ms [] nk P f D nm B C z A q->cm M w f->(∀b,P b->M b\/w.heap.size<=b)->
   au 123 #[.pointer (some ⟨pb,1,none⟩),dF (N+1) x] f λE g=>∃(e:Wd)(d:Int),E=aw (ax #[.agg #[ae e.1,ae e.2],ae d])/\zJ (N+1) x base (PL pb name B (ag z C.length A)) room D nm q e d f g:=by
  intro f D B C z A q P r af an;have aC:=af.size;obtain⟨_,_,_,_,aV,aX,aY,_⟩:=r.front;have aD:In f.heap.size f (N+1) x:=(In.off (λb (c:¬M b/\b<w.heap.size)=>af.block b c.2 c.1) Z ad).mono aC;have aB:cF (λb=>¬q b) (N+1) x:=Z.mono λb c a=>by
   rcases an b (r.inM b a)with t|t
   ·exact c.1 t
   ·have:=c.2;omega
  exact(we (N+1) x base (PL pb name B (ag z C.length A)) room D nm q f r.heap aD aB ao (by omega) aI aJ (by omega) (by omega)).mono λE g a=>AH a
 have T:∀{n:Nat}{V:aW}{j g:ah},cm V j g->(∀b,n<=b->b<n+3->b<j.heap.size->¬V b)->Up n j g:=λk ap=>⟨k.size,λb u O F=>k.block b F (ap b u O F)⟩;have Y:∀{e:Wd}{d:Int}{j g:ah}{D:List Wd}{B:Wd}{C:List Wd}{z:ay}{A:Nat}{q:aW},zJ (N+1) x base (PL pb name B (ag z C.length A)) room D nm q e d j g->cm q j g:=λ{e d j g D B C z A q} a=>by
  by_cases W:d=0
  ·exact(a.2.2 W).2.2.2
  ·exact bB (a.2.1 W).2 _
 refine(CX pb x.1.1 x.1.2.1 x.1.2.2 x.2.1.1 x.2.2.length x.2.1.2 w (λe d j g=>zJ (N+1) x base (PL pb name sv (ag ma vs.length mc)) room ws nm Mh e d j g)
  (λH I=>cm M w I/\H.heap.size<=I.heap.size/\∃l p i o m,cV base pb name room (N+1) s ms [] nk (λb=>M b\/H.heap.size<=b) I l nm p i o i.length m/\(l.length:Int)=((s::ms).map (sz (N+1))).sum)
  (λe d f U=>cm M w f/\w.heap.size+3<=f.heap.size/\∃l p i o m,cV base pb name room (N+1) s ms [] nk (λb=>M b\/w.heap.size+3<=b) f l nm p i o i.length m/\(l.length:Int)=((s::ms).map (sz (N+1))).sum/\zJ (N+1) x base (PL pb name p (ag o i.length i.length)) room l nm m e d f U) ?_ ?_ ?_).mono ?_
 ·intro j c;refine(aa (y.later c) (bB c M) λb a=>ak a).mono ?_;rintro E g ⟨e,d,rfl,h⟩;refine⟨e,d,rfl,T (Y h) λb u _ _ a=>?_,h⟩;have:=G b (y.inM b a);omega
 ·intro aM j g H c h v aF;have X:=(h.2.1 (by decide)).2;have ab:=c.size;have O:=((y.later c).later X).kept v λb a _ t=>by
   have:=G b a;omega
  have ar:cm M w H:=cm.trans ((bB c M).trans (bB X M) λ_ _ a=>a) v λb Q a=>by omega
  refine(O.tidy (by omega) aj (by omega)).mono ?_;rintro E I ⟨rfl,l,p,i,o,m,F,K,S⟩;refine⟨rfl,T K λb u _ _ a=>?_,ar.trans K λ_ _ a=>a,K.size,l,p,i,o,m,F,S⟩;have:=G b a;omega
 ·rintro H I f ⟨K,aS,l,p,i,o,m,F,S⟩ aF c
  have r:=(F.later c).mono (M':=λb=>M b\/w.heap.size+3<=b) (nk':=nk) (λb a=>by
   rcases a with a|a
   ·exact ak a
   ·exact am (by omega)) (aA _)
  have L:cm M w f:=K.trans (bB c M) λ_ _ a=>a
  refine(aa r L λb a=>by
   rcases a with a|a
   ·exact ak a
   ·exact am (by omega)).mono ?_
  rintro E U ⟨e,d,rfl,h⟩;refine⟨e,d,rfl,T (Y h) λb u O _ a=>?_,L,by have:=c.size;omega,l,p,i,o,m,r,S,h⟩;rcases r.inM b a with t|t
  ·have:=G b t;omega
  ·omega
 ·rintro E aZ ⟨e,d,rfl,⟨al,j,g,c,h,v⟩|⟨aM,j,g,H,I,f,U,_,_,_,_,_,_,⟨L,aT,l,p,i,o,m,r,av,h⟩,v⟩⟩
  ·have ab:=c.size;have J:d=tG (N+1) x room (s::ms):=by
    rw[Fg (ws:=ws) (by rw[<-h.1];exact al) aG];exact h.1
   obtain⟨l,aK,m,u,R⟩:=(y.later c).put1 h;refine⟨e,by rw[<-J],l,aK,sv,vs,ma,mc,m,?_,?_⟩
   ·rw[<-J];refine(u.kept v λb a _ t=>?_).mono (λb a=>?_) (aA _)
    ·rcases a with a|a
     ·have:=G b a;omega
     ·omega
    ·rcases a with a|a
     ·exact ak a
     ·exact am (by omega)
   ·exact cm.trans ((bB c M).trans R λ_ _ a=>a) v λb Q a=>by omega
  ·have ab:=L.size;have J:d=tG (N+1) x room (s::ms):=by
    rw[Ff av];exact h.1
   obtain⟨aN,aL,ai,u,R⟩:=r.put1 h;refine⟨e,by rw[<-J],aN,aL,p,i,o,i.length,ai,?_,?_⟩
   ·rw[<-J];refine(u.kept v λb a _ t=>?_).mono (λb a=>?_) (aA _)
    ·subst t;rcases a with(a|a)|a
     ·have:=G _ a;omega
     ·omega
     ·omega
    ·rcases a with(a|a)|a
     ·exact ak a
     ·exact am (by omega)
     ·exact am (by omega)
   ·refine cm.trans (L.trans R λb Q a=>?_) v λb Q a=>by omega
    rcases a with a|a
    ·exact a
    ·omega
end
theorem uB(vs:List Wd)(v:Wd):bz (vs++ [v])=bz vs++qG v:=by simp[bz]
theorem pq{P:Program}(w:ah)(t ty e:TypeId)(i:TypeInfo)(y:P.underlying t=some (.slice e))(s:P.info? e=some i)(g f d l:Nat)(h:Array az)(r:w.heap[g]?=some (.cells h e (0,0)))(a:Addr)(m c:Nat)(b:dH)(u:b.length=m*i.size)(v:∀j k,b[j]?=some k->w.cell? (a.add j)=some k)(o:∀k∈b,k.oneCell'=true)(x:d+m<=l)(q:f+d*i.size+b.length<=h.size):(Builtin.append_ #[t,t] ty #[ag (some ⟨g,f,none⟩) d l,ag (some a) m c]).run P w= .ok (ag (some ⟨g,f,none⟩) (d+m) l) (w.setRow g (h.toList.take (f+d*i.size)++b++h.toList.drop (f+d*i.size+b.length)).toArray):=by
 have p:=run_firstCells_some (P:=P) w i.size m a m c b u v;have n:=qp P g (f+d*i.size) e b 0 h w r (by simpa using q) o;simp only[jC]at n;simp[Builtin.append_,cJ y,sizeOf,typeInfo,s,Builtin.lenOf,x,p,eS,n]
def rP(Mh:aW)(ma:ay)(vs:List Wd)(w:ah)(d:ay)(e:Nat)(w':ah):Prop:=
 kv Mh d vs e w'/\cm (λb=>∃a,ma=some a/\b=a.block) w w'/\∀a,d=some a->(∃c,ma=some c/\a.block=c.block)\/a.block=w.heap.size
theorem LO{S:aW}(w:ah)(g:Nat)(cs:Array az)(a:∀b,b=g->S b):cm S w (w.setRow g cs):=⟨rfl,rfl,rfl,by simp,λ_ _ c=>setRow_other _ _ _ _ λe=>c (a _ e)⟩
theorem wJ(a:List Wd)(C old:Nat)(c:az)(k:c.cells.size=2)(o:old=a.length)(e:a.length<=C)(f:C<=maxLen)(g:∀b,Mh b->b<w.heap.size):rP Mh ma a w (some ⟨w.heap.size,0,none⟩) C (w.drew.alloc (.cells ((bz a).toArray++Builtin.zeroCells c.cells (C-old)) 184)):=by
 have d:∀b,b<w.heap.size->(w.drew.alloc (.cells ((bz a).toArray++Builtin.zeroCells c.cells (C-old)) 184)).heap[b]?=w.heap[b]? :=λb d=>Below.heap_alloc w.drew _ b d;have j:(w.drew.alloc (.cells ((bz a).toArray++Builtin.zeroCells c.cells (C-old)) 184)).heap[w.heap.size]?=some (.cells ((bz a).toArray++Builtin.zeroCells c.cells (C-old)) 184):=aK w.drew _;refine⟨am ⟨w.heap.size,0,_,rfl,λl=>?_,j,e,f,?_,?_⟩,⟨rfl,rfl,rfl,?_,λb i _=>d b i⟩,λm h=>am (congrArg Addr.block (aI h).symm)⟩
 ·have:=g _ l;omega
 ·rw[Array.size_append,size_zeroCells,k,fM,cP];omega
 ·rw[List.drop_zero,Array.toList_append,kt (by rw[qk,cP];omega),qk,bG (by rw[cP];omega)]
 ·have:=fO w.drew (.cells ((bz a).toArray++Builtin.zeroCells c.cells (C-old)) 184);have n:w.drew.heap.size=w.heap.size:=rfl;omega
theorem uO(ty:TypeId)(l:kv Mh ma vs d w)(N:vs.length<=1000)(u:∀b,Mh b->b<w.heap.size)(sa:Addr)(c:Nat)(v:Wd)(q:∀j k,(qG v)[j]?=some k->w.cell? (sa.add j)=some k):∃B C w',(Builtin.append_ #[187,187] ty #[ag ma vs.length d,ag (some sa) 1 c]).run Tryz.prog w=.ok (ag B (vs.length+1) C) w'/\rP Mh ma (vs++ [v]) w B C w':=by
 obtain⟨o,hit,z,h,A⟩:=bS lU;have K:∀k∈qG v,k.oneCell'=true:=by simp[qG,Value.oneCell']
 have i:(qG v).length=2:=rfl;rcases l with⟨rfl,rfl,rfl⟩|⟨f,a,e,rfl,r,n,E,s,F,t⟩
 ·have m:=run_append_nil (P:=Tryz.prog) w 187 ty 184 o _ underlying187 hit z sa 1 c (qG v) (by rw[i,h]) q (by omega) (by omega) (by rw[A];omega);refine⟨_,_,_,m,?_⟩;have l:=wJ (Mh:=Mh) (ma:=none) (w:=w) [v] (grownCap w 1 0 184) 1 (.agg #[ae 0,ae 0]) rfl rfl (grownCap_ge w 1 0 _) (grownCap_le_maxLen w 1 0 _ (by unfold maxLen;omega)) u;simpa [bz]using l
 ·have O:=(aR.1 n).1;by_cases L:vs.length+1<=d
  ·have x:a+vs.length*o.size+(qG v).length<=e.size:=by rw[i,h];omega
   have m:=pq (P:=Tryz.prog) w 187 ty 184 o underlying187 hit f a vs.length d e n sa 1 c (qG v) (by rw[i,h]) q K L x;refine⟨_,_,_,m,am ⟨f,a,_,rfl,r,setRow_heap w f e _ _ _ n,?_,s,?_,?_⟩,?_,λM G=>ak ⟨_,rfl,?_⟩⟩
   ·simp only[bq,bu,eV];omega
   ·have p:e.toList.length=e.size:=lu;rw[h]at x ⊢;simp only[fM,bq,dt,eU,p];omega
   ·rw[h];have Q:(e.toList.take (a+vs.length*2)).length=a+vs.length*2:=by
     have p:e.toList.length=e.size:=lu;rw[dt,p];omega
    have I:(e.toList.take (a+vs.length*2)).drop a=bz vs:=by
     rw[List.drop_take,Nat.add_sub_cancel_left];exact t
    rw[uB,lA,p9 (by omega),I];have g:(vs++ [v]).length*2=(bz vs).length+2:=by
     rw[cP];simp only[bq,bu,eV];omega
    rw[g,List.take_length_add_append,kt (by rw[i];omega),bG (by rw[i];omega)]
   ·exact LO w f _ λb g=>⟨_,rfl,g⟩
   ·exact congrArg Addr.block (aI G).symm
  ·have m:=run_append_grow (P:=Tryz.prog) w 187 ty 184 o _ underlying187 hit z ⟨f,a,none⟩ vs.length d (bz vs) (by rw[cP,h]) (λj k y=>by
     have J:kv Mh (some ⟨f,a,none⟩) vs d w:=am ⟨f,a,e,rfl,r,n,E,s,F,t⟩;rcases J.words with g|⟨ad,g,H⟩
     ·subst g;simp[bz]at y
     ·have D:=aI g;rw[D]
      exact H j k y) sa 1 c (qG v) (by rw[i,h]) q (by omega) (by omega) (growslice_fits (by omega) (by rw[A];omega))
   refine⟨_,_,_,m,?_⟩;have l:=wJ (Mh:=Mh) (ma:=some ⟨f,a,none⟩) (w:=w) (vs++ [v]) (grownCap w (vs.length+1) d 184) (vs.length+1) (.agg #[ae 0,ae 0]) rfl (by simp) (by have:=grownCap_ge w (vs.length+1) d 184;simpa using this) (grownCap_le_maxLen w _ _ _ (by unfold maxLen;omega)) u;simpa [uB]using l
theorem xR{x':az}{o:Oper}{a:Act}(s x:Operand)(c:o.op=.call {callee:=.builtin .append,args:= #[s,x],argTypes:= #[187,187]})(e:a.eval s=v)(f:a.eval x=x')(d:(Builtin.append_ #[187,187] o.type #[v,x']).run Tryz.prog w=.ok u w')(b:K (a.put o.dst u) w'):Oper.wp Tryz.prog o a w K Q:=by
 unfold Oper.wp execOp;simp only[c,resolve,invoke,builtin,jE,jF,jD,jA,bA,dA,e,f,d];exact b
theorem r8(g:Nat)(k i:Int)(t:aq)(B:ay)(D C:Nat)(L aJ:Nat)(ma:ay)(w:ah)(E:Wd->Int->ah->bF)(H:Wd->ah->ah->ay->Nat->bF)(aV:g<w.heap.size)(Z:Hid (∀w1,ap w w1->ai w1 g 7 (ag ma L aJ)))(ab:Hid (∀w0,ap w w0->au 185 #[aE g,.agg #[ae k,ae i,af t,ag B D C]] w0 λe w1=>∃(v:Wd)(h:Int),e=aw (ax #[.agg #[ae v.1,ae v.2],ae h])/\Hid (Up w.heap.size w0 w1/\E v h w0 w1)))(ad:Hid (∀v w0 w1,E v 0 w0 w1->∃q r,Hid (∀w2,ap w1 w2->ai w2 g 7 (ag q L r)/\∀j,w2.frozen? ⟨g,j,none⟩=false)/\Hid (∀w2,ap w1 w2->∀(sa:Addr)(c:Nat),(∀j M,(qG v)[j]?=some M->w2.cell? (sa.add j)=some M)-> ∃m n d,(Builtin.append_ #[187,187] 187 #[ag q L r,ag (some sa) 1 c]).run Tryz.prog w2=.ok (ag m (L+1) n) d/\ai d g 7 (ag q L r)/\(∀j,d.frozen? ⟨g,j,none⟩=false)/\(∀b,w1.heap.size<=b->b<w2.heap.size->d.heap[b]?=w2.heap[b]?)/\H v w0 w2 m n d))):au 162 #[aE g,.agg #[ae k,ae i,af t,ag B D C]] w λe w'=> (20<=L->e=aw (ae 2)/\ap w w')/\(L<20->∃(v:Wd)(h:Int)(w0 w1:ah),e=aw (ae h)/\ap w w0/\E v h w0 w1/\(h≠0->ap w1 w')/\(h=0->∃w2 m n d,ap w1 w2/\H v w0 w2 m n d/\w'=(d.setCell ⟨g,7,none⟩ (ag m (L+1) n)))):=by
 have aa:=av (yH w (.cells #[ae k,ae i,af t,ag B D C] 54) rfl);have F:Hid (ap w (w.alloc (.cells #[ae k,ae i,af t,ag B D C] 54))/\(w.alloc (.cells #[ae k,ae i,af t,ag B D C] 54)).heap.size=w.heap.size+1):=⟨by go_grown,by simp⟩;go_enter func162,ntmps162;have T:=Z w (aG _ _);rcases Nat.lt_or_ge L 20 with ao|ao
 ·have ar:¬(20:Int)<=(L:Int):=by omega
  have Q:=av (ab _ F.1);go_wp2_with fail;refine Q.mono ?_;rintro e w1 ⟨v,h,rfl,N⟩;have R:Hid (∃w0,ap w w0/\E v h w0 w1):=⟨_,F.1,N.2⟩;obtain⟨w0,s⟩:=R.out;replace s:=av s;clear R N Q aa F T;by_cases K:h=0;rotate_left
  ·have aT:¬(0:Int)=h:=λe=>K e.symm;go_wp2_with fail;exact aD (v:=ae h) (by simp[results,results162,go_sem]) rfl ⟨λa=>by omega,λ_=>⟨v,h,w0,w1,rfl,s.1,s.2,λ_=>aZ,λa=>absurd a K⟩⟩
  ·subst K;obtain⟨q,r,aj,ak⟩:=ad v w0 w1 s.2;have S:Hid (∃w2 f,(w2=w1.alloc (.cells #[ae v.1,ae v.2] 184)/\f=w1.heap.size)/\ap w1 w2/\w2.heap[f]?=some (.cells #[ae v.1,ae v.2] 184)/\w1.heap.size<=f):=⟨_,_,⟨rfl,rfl⟩,aZ,aK _ _,aA _⟩;go_wp2_with fail;obtain⟨w2,f,⟨Y,W⟩,o⟩:=S.out;rw[<-Y,<-W];replace o:=av o;clear Y W S;have z:Hid (∀w':ah,ap w2 w'->(ai w' g 7 (ag q L r)/\∀j,w'.frozen? ⟨g,j,none⟩=false)/\ai w' f 0 (ae v.1)/\ai w' f 1 (ae v.2)):=λw' a=>by
    have A:=(a.block f (aR.1 o.2.1).1).trans o.2.1;exact⟨aj _ (o.1.trans (a.mono o.1.size)),aC A 0,aC A 1⟩
   obtain⟨⟨T,aQ⟩,aW,aX⟩:=z.out w2 (aG _ _);have P:Hid (ap w2 w2.drew):=(aG _ _).drew;have y:Hid (ap w2 (w2.alloc (.cells #[ae v.1,ae v.2] 184)).drew):=(show Below _ _ _ by go_grown);have O:Hid (∃m n d,(Builtin.append_ #[187,187] 187 #[ag q L r,ag (some ⟨w2.heap.size,0,none⟩) 1 1]).run Tryz.prog (w2.alloc (.cells #[ae v.1,ae v.2] 184)).drew=.ok (ag m (L+1) n) d/\ai d g 7 (ag q L r)/\(∀j,d.frozen? ⟨g,j,none⟩=false)/\(ai d f 0 (ae v.1)/\ai d f 1 (ae v.2))/\∃G,ap w1 G/\H v w0 G m n d):=by
    have V:=o.1.trans (y.mono o.1.size);have aH:=sx w2 (.cells #[ae v.1,ae v.2] 184) rfl
    obtain⟨m,n,d,aL,aM,aN,aO,aP⟩:=ak _ V ⟨w2.heap.size,0,none⟩ 1 (λj M aF=>by
     rw[eS,cB];refine(aC aH j).trans ?_;rw[<-aF,<-List.getElem?_toArray]
     rfl)
    have X:=(aR.1 o.2.1).1;have A:=(aO f o.2.2 (bf X y.size)).trans ((y.block f X).trans o.2.1);exact⟨m,n,d,aL,aM,aN,⟨aC A 0,aC A 1⟩,_,V,aP⟩
   obtain⟨m,n,d,J,am,an,aI,I⟩:=O.out;replace J:=av J;replace I:=av I;clear O;have x:w2.drew.cell? ⟨g,7,none⟩=some (ag q L r)/\w2.drew.cell? ⟨f,0,none⟩=some (ae v.1)/\w2.drew.cell? ⟨f,1,none⟩=some (ae v.2):=⟨(z _ P).1.1,(z _ P).2⟩;have al:Hid ((w2.alloc (.cells #[ae v.1,ae v.2] 184)).drew.cell? ⟨g,7,none⟩=some (ag q L r)/\(w2.alloc (.cells #[ae v.1,ae v.2] 184)).drew.cell? ⟨f,0,none⟩=some (ae v.1)/\(w2.alloc (.cells #[ae v.1,ae v.2] 184)).drew.cell? ⟨f,1,none⟩=some (ae v.2)):=⟨(z _ y).1.1,(z _ y).2⟩;refine wp_region_noPanic ?_;refine kh (λw'=>ai w' g 7 (ag q L r)/\ai w' f 0 (ae v.1)/\ai w' f 1 (ae v.2)) 10 (by kernel_rfl) ?_
   try simp only[fM]
   refine br (i:=0) (v:= ?_) rfl (by kernel_rfl) (by kernel_rfl) (by kernel_rfl) (by kernel_rfl) (λ_ _ _ a=>a) rfl ?_ x ?_;rotate_left
   ·intro w' l
    try dsimp only at l
    go_simp
    try with_reducible rfl
   try simp only[Act.put,cr]
   refine br (i:=1) (v:= ?_) rfl (by kernel_rfl) (by kernel_rfl) (by kernel_rfl) (by kernel_rfl) (λ_ _ _ a=>a) rfl ?_ x ?_;rotate_left
   ·intro w' l
    try dsimp only at l
    go_simp
    try with_reducible rfl
   try simp only[Act.put]
   refine br (i:=2) (v:= ?_) rfl (by kernel_rfl) (by kernel_rfl) (by kernel_rfl) (by kernel_rfl) (λ_ _ _ a=>a) rfl ?_ x ?_;rotate_left
   ·intro w' l
    try dsimp only at l
    go_simp
    try with_reducible rfl
   try simp only[Act.put]
   refine br (i:=3) (v:= ?_) rfl (by kernel_rfl) (by kernel_rfl) (by kernel_rfl) (by kernel_rfl) (λ_ _ _ a=>a) rfl ?_ x ?_;rotate_left
   ·intro w' l
    try dsimp only at l
    go_simp
    try with_reducible rfl
   try simp only[Act.put]
   refine br (i:=4) (v:= ?_) rfl (by kernel_rfl) (by kernel_rfl) (by kernel_rfl) (by kernel_rfl) (λ_ _ _ a=>a) rfl ?_ x ?_;rotate_left
   ·intro w' l
    try dsimp only at l
    go_simp
    try with_reducible rfl
   try simp only[Act.put]
   refine br (i:=5) (v:= ?_) rfl (by kernel_rfl) (by kernel_rfl) (by kernel_rfl) (by kernel_rfl) (λ_ _ _ a=>a) rfl ?_ x ?_;rotate_left
   ·intro w' l
    try dsimp only at l
    go_simp
    try with_reducible rfl
   try simp only[Act.put]
   refine dw (i:=6) (by kernel_rfl) rfl rfl (λu p=>?_) (by decide)
   go_simp
   refine p _ _ (λ_=>al) (λaU=>?_);clear p u
   try simp only[Act.put,cr,dJ,dI]
   refine dw (i:=7) (by kernel_rfl) rfl rfl (λu p=>?_) (by decide);refine xR (v:=ag q L r) (x':=ag (some ⟨w2.heap.size,0,none⟩) 1 1) _ _ rfl (by simp[Act.eval]) (by simp[Act.eval]) J ?_;refine p _ _ (λ_=>⟨am,aI⟩) (λU=>?_);clear p u
   try simp only[Act.put,cr]
   refine dw (i:=8) (by kernel_rfl) rfl rfl (λu p=>?_) (by decide)
   go_simp
   refine p _ _ (λ_=>U) (λ_=>?_);clear p u
   try simp only[Act.put,cr,dJ,dI]
   refine br (i:=9) (v:= ?_) rfl (by kernel_rfl) (by kernel_rfl) (by kernel_rfl) (by kernel_rfl) (λ_ _ _ a=>a) rfl ?_ U ?_;rotate_left
   ·intro w' l
    try dsimp only at l
    go_simp
    try with_reducible rfl
   try simp only[Act.put,cr]
   have aS:=an 7;refine ke (by kernel_rfl) rfl rfl (by kernel_rfl) (λu p=>?_)
   go_simp
   refine p _ _ (NoPanic.normal ?_);clear p u
   try simp only[Act.put,cr,dJ,dI]
   go_wp2_with fail;obtain⟨G,az,aB⟩:=I;exact aD (v:=ae 0) (by simp[results,results162,go_sem]) rfl ⟨λa=>by omega,λ_=>⟨v,0,w0,w1,rfl,s.1,s.2,λa=>absurd rfl a,λ_=>⟨G,m,n,d,az,aB,rfl⟩⟩⟩
 ·have ar:(20:Int)<=(L:Int):=by omega
  go_wp2_with fail;exact aD (v:=ae 2) (by simp[results,results162,go_sem]) rfl ⟨λ_=>⟨rfl,F.1⟩,λa=>by omega⟩
section
variable {base pb:Nat} {name:aq} {room:Int} {N:Nat} {s:Tm (N+1)} {ms:List (Tm (N+1))} {xs:List (Wd×Tm (N+1))} {nk:Nat} {M:aW} {w:ah} {ws:List Wd} {nm:bm} {sv:Wd} {vs:List Wd} {ma:ay} {mc:Nat} {Mh:aW}
def Ad(N:Nat)(x:Tm N)(room:Int)(s:Tm N)(ms:List (Tm N)):Int:=if 20<=ms.length then 2 else tG N x room (s::ms)
theorem cV.box0(a:cV base pb name room (N+1) s ms xs nk M w ws nm sv vs ma mc Mh):Mh pb/\pb<w.heap.size:=by
 obtain⟨f,d,e,b,_⟩:=a.heap.box;obtain⟨_,_,_,_,_,_,c,_⟩:=a.heap;exact⟨c,(PL.cells b).2.2.2.2.2⟩
theorem cV.more{v:Wd}{x:Tm (N+1)}(a:cV base pb name room (N+1) s ms [(v,x)] nk M w ws nm sv vs ma mc Mh){g:ay}{h:Nat}{i:ah}(C:rP Mh ma (vs++ [v]) w g h i):cV base pb name room (N+1) s (ms++ [x]) [] nk (λb=>M b\/w.heap.size<=b) (i.setCell ⟨pb,7,none⟩ (.slice g (vs++ [v]).length h)) ws nm sv (vs++ [v]) g h Mh/\cm M w (i.setCell ⟨pb,7,none⟩ (.slice g (vs++ [v]).length h)):=by
 obtain⟨E,r,F⟩:=C;obtain⟨q,G⟩:=a.box0;have D:∀d,ma=some d->¬Mh d.block:=λd c f=>by
  rcases a.mail with⟨e,_⟩|⟨m,t,o,l,j,_⟩
  ·rw[e]at c;cases c
  ·rw[l]at c;rw[<-aI c]at f;exact j f
 have A:dZ base (PL pb name sv (ag ma vs.length mc)) room ws nm Mh i:=a.heap.kept r λb n _ f=>by
  obtain⟨d,c,rfl⟩:=f;exact D d c n
 have k:=bI i pb 7 (.slice g (vs++ [v]).length h);refine⟨⟨A.turn k λI H mp B=>?_,?_,?_,?_,a.names,λb n=>ak (a.inM b n),λd c=>?_⟩,?_⟩
 ·unfold World.setCell;simp[bR,B]
 ·rcases E with e|⟨m,t,o,l,j,p,y⟩
  ·exact ak e
  ·exact am ⟨m,t,o,l,j,(k.block m (aR.1 p).1 λe=>j (by rw[e];exact q)).trans p,y⟩
 ·have:=a.has;simpa using this
 ·simp[a.len]
 ·rcases F d c with⟨u,z,e⟩|e
  ·rw[e];exact ak (a.mailM u z)
  ·exact am (by omega)
 ·refine cm.trans (r.mono λb f=>?_) k λb _ f=>?_
  ·obtain⟨d,c,rfl⟩:=f;exact a.mailM d c
  ·rw[f];exact a.inM pb q
def Qu(base pb:Nat)(name:aq)(room:Int)(N:Nat)(s:Tm N)(ms:List (Tm N))(x:Tm N)(nk:Nat)(M:aW)(w:ah)(e:Ending)(w':ah):Prop:=
 e=aw (ae (Ad N x room s ms))/\Hid (∃i f g h c d a,cV base pb name room N s (if Ad N x room s ms=0 then ms++ [x]else ms) [] (nk+201) (λb=>M b\/w.heap.size<=b) w' i f g h c d a/\cm M w w')
theorem cV.deliver(z:cV base pb name room (N+1) s ms [] nk M w ws nm sv vs ma mc Mh)(x:Tm (N+1))(av:In w.heap.size w (N+1) x)(an:cF (λb=>¬M b) (N+1) x)(ag:(aH (N+1) x).length<=2097152)(L:∀b,M b->b<w.heap.size)(al:nk<=94000)(ad:ms.length<=999)(aK:base<=w.heap.size):au 162 #[aE pb,dF (N+1) x] w (Qu base pb name room (N+1) s ms x nk M w):=by
 have aN:=z.len;obtain⟨aO,aq⟩:=z.box0
 refine(r8 pb x.1.1 x.1.2.1 x.1.2.2 x.2.1.1 x.2.2.length x.2.1.2 vs.length mc ma w
  (λh r p q=>r=tG (N+1) x room (s::ms)/\cm M w q/\w.heap.size<=p.heap.size/\∃o m n i g k j,cV base pb name room (N+1) s ms (if r=0 then [(h,x)]else []) (nk+201) (λb=>(M b\/p.heap.size<=b)/\b<q.heap.size) q o m n i g k j)
  (λh p v E F G=>cm M w v/\w.heap.size<=p.heap.size/\∃o m n i g k j,cV base pb name room (N+1) s ms [(h,x)] (nk+201) (λb=>M b\/p.heap.size<=b) v o m n i g k j/\rP j g (i++ [h]) v E F G) aq ?_ ?_ ?_).mono ?_
 ·intro q e;obtain⟨X,V,W,f,_⟩:=(z.later e).heap.box;exact(PL.cells f).2.2.2.1
 ·intro p e;have D:=e.size;refine((z.later e).put x ((av.below e).mono D) an ag (λb d=>bf (L b d) D) al ad (by omega)).mono ?_;rintro y q ⟨h,rfl,o,m,n,i,g,k,j,f,u⟩;refine⟨h,_,rfl,⟨u.size,λb ax _ az=>u.block b az λd=>?_⟩,rfl,(bB e M).trans u λ_ _ d=>d,D,o,m,n,i,g,k,_,f.inside⟩;have:=L b d;omega
 ·rintro h p q ⟨J,u,T,o,m,n,i,g,k,j,f⟩;rw[if_pos rfl]at f;have aL:=f.len;have I:i.length=vs.length:=by omega
  refine⟨g,k,λv e=>?_,λv e sa c ar=>?_⟩
  ·obtain⟨X,V,W,l,_⟩:=(f.later e).heap.box;rw[I]at l;exact⟨(PL.cells l).2.2.2.1,(PL.cells l).2.2.2.2.1⟩
  ·have t:=f.later e;have D:=e.size;obtain⟨E,F,G,S,C⟩:=uO 187 t.mail (by omega) (λb d=>bf (f.inM b d).2 D) sa c h ar;rw[I]at S;have R:∀b,(∃a,g=some a/\b=a.block)->¬j b/\b<q.heap.size:=λb d=>by
    obtain⟨a,A,rfl⟩:=d;refine⟨λZ=>?_,(f.mailM a A).2⟩;rcases f.mail with⟨y,_⟩|⟨aF,aS,aD,r,ab,_⟩
    ·rw[y]at A;cases A
    ·rw[r]at A;rw[<-aI A]at Z;exact ab Z
   obtain⟨ao,ap⟩:=t.box0;have P:G.heap[pb]?=v.heap[pb]? :=C.2.1.block pb ap λd=>(R pb d).1 ao;obtain⟨X,V,W,l,_⟩:=t.heap.box;rw[I]at l;refine⟨E,F,G,S,(bM P 7).trans (PL.cells l).2.2.2.1,λU=>?_,λb ax ay=>C.2.1.block b ay λd=>?_,?_⟩
   ·exact(jG (a:=⟨pb,U,none⟩) P).trans ((PL.cells l).2.2.2.2.1 U)
   ·have:=(R b d).2;omega
   ·exact⟨u.trans (bB e M) λ_ _ d=>d,T,o,m,n,i,g,k,j,t.mono (λb d=>d.1) (aA _),C⟩
 ·rintro y aT ⟨af,l⟩;by_cases K:20<=ms.length
  ·obtain⟨rfl,e⟩:=af (by omega);have B:Ad (N+1) x room s ms=2:=by simp[Ad,K]
   refine⟨by rw[B],ws,nm,sv,vs,ma,mc,Mh,?_,bB e M⟩;rw[B];exact(z.later e).mono (λb d=>ak d) (by omega)
  ·obtain⟨h,r,p,q,rfl,e,⟨J,u,T,o,m,n,i,g,k,j,f⟩,aj,ah⟩:=l (by omega);have B:Ad (N+1) x room s ms=r:=by simp[Ad,K,J]
   refine⟨by rw[B],?_⟩;rw[B];by_cases H:r=0
   ·obtain⟨v,E,F,G,aJ,⟨Q,_,aC,aw,aB,Y,aQ,aR,aa,t,C⟩,rfl⟩:=ah H;have aM:=t.len;have y:vs.length+1=(Y++ [h]).length:=by simp;omega
    obtain⟨ae,ai⟩:=t.more C;rw[y,if_pos H];have aP:=Q.size;refine⟨aC,aw,aB,Y++ [h],E,F,aa,ae.mono (λb d=>?_) (aA _),Q.trans ai λb aG d=>?_⟩
    ·rcases d with(d|d)|d
     ·exact ak d
     ·exact am (by omega)
     ·exact am (by omega)
    ·rcases d with d|d
     ·exact d
     ·omega
   ·have O:=aj H;rw[if_neg H]at f ⊢;refine⟨o,m,n,i,g,k,j,(f.later O).mono (λb d=>?_) (aA _),u.trans (bB O M) λ_ _ d=>d⟩;rcases d.1 with d|d
    ·exact ak d
    ·exact am (by omega)
end
theorem I8(y:aq)(k i:Int)(t:aq)(l:ay)(n m:Nat)(room:Int)(w:ah)(r:Bool)(C:Wd->Int->ah->bF)(H:Hid (∀w1:ah,au 115 #[af y] w1 λe w'=>e=aw (.bool r)/\w'=w1))(Q:Hid (r=true->∀w1:ah,au 112 #[af y] w1 λe w'=>e=aw (af y)/\ap w1 w'))(P:Hid (0<=room/\room<=1000->∀w2,HB (cQ.own (w.heap.size+1)) room (ag none 0 0) (ag none 0 0) (.map none) w2->w2.heap.size=w.heap.size+1+1->ap w w2->au 123 #[.pointer (some ⟨w.heap.size+1,0,none⟩),.agg #[ae k,ae i,af t,ag l n m]] w2 λe b=>∃(v:Wd)(c:Int),e=aw (ax #[.agg #[ae v.1,ae v.2],ae c])/\Hid (∃tv lv mv,b.heap[w.heap.size+1]?=some (.cells #[ae room,tv,lv,mv] 193)/\C v c w2 b))):au 85 #[af y,.agg #[ae k,ae i,af t,ag l n m],ae room] w λe w'=> (r=false->e=aw (ax #[.pointer none,ae 5])/\ap w w')/\(r=true->¬(0<=room/\room<=1000)->e=aw (ax #[.pointer none,ae 1])/\ap w w')/\ (r=true->0<=room/\room<=1000->∃(v:Wd)(c:Int)(w2 b:ah),Hid (ap w w2/\w2.heap.size=w.heap.size+1+1/\C v c w2 b)/\(c≠0->e=aw (ax #[.pointer none,ae c])/\ap b w')/\ (c=0->∃(s:ah)(tv lv mv:az),e=aw (ax #[aE s.heap.size,ae 0])/\ap b s/\b.heap[w.heap.size+1]?=some (.cells #[ae room,tv,lv,mv] 193)/\w'=s.alloc (.cells #[af y,ae room,tv,lv,mv,ae v.1,ae v.2,ag none 0 0] 195))):=by
 have O:=av (yH w (.cells #[ae k,ae i,af t,ag l n m] 54) rfl);have o:Hid (ap w (w.alloc (.cells #[ae k,ae i,af t,ag l n m] 54))/\(w.alloc (.cells #[ae k,ae i,af t,ag l n m] 54)).heap.size=w.heap.size+1):=⟨by go_grown,by simp⟩;cases r with
 | false=>
  go_enter func85,ntmps85;go_wp2_with (go_at_call 115;refine(H _).mono ?_;rintro e w1 ⟨rfl,rfl⟩);exact aD (v:=ax #[.pointer none,ae 5]) (by simp[results,results85,go_sem]) rfl ⟨λ_=>⟨rfl,o.1⟩,λa=>(by cases a),λa=>(by cases a)⟩
 | true=>
  have R:=av (Q rfl);go_enter func85,ntmps85;go_wp2_with (go_at_call 115;refine(H _).mono ?_;rintro e w1 ⟨rfl,rfl⟩);refine(NB _ _).mono ?_;rintro e w2 ⟨p,g⟩;by_cases q:0<=room/\room<=1000;rotate_left
  ·obtain⟨rfl,rfl⟩:=p q;clear p g;go_wp2_with fail;exact aD (v:=ax #[.pointer none,ae 1]) (by simp[results,results85,go_sem]) rfl ⟨λa=>(by cases a),λ_ _=>⟨rfl,o.out.1⟩,λ_ a=>absurd a q⟩
  ·obtain⟨rfl,d⟩:=g q;clear p g;replace d:=av d;rw[o.out.2]at d;have G:Hid (ap w w2):=o.1.trans (d.2.2.mono (by first|exact fN _|exact o.1.size));have I:=av (P q w2 d.1 d.2.1 G);have x:Hid (w2.heap[w.heap.size]?=some (.cells #[ae k,ae i,af t,ag l n m] 54)):=(d.2.2.block _ (by have:=o.2;omega)).trans O;have t0:ai w2 w.heap.size 0 (ae k):=aC x 0;have t1:ai w2 w.heap.size 1 (ae i):=aC x 1;have t2:ai w2 w.heap.size 2 (af t):=aC x 2;have t3:ai w2 w.heap.size 3 (ag l n m):=aC x 3;go_wp2_with fail;refine I.mono ?_;rintro e b ⟨v,c,rfl,F⟩;obtain⟨tv,lv,mv,u,z⟩:=F.out;replace u:=av u;replace z:=av (show ap w w2/\w2.heap.size=w.heap.size+1+1/\C v c w2 b from⟨G,d.2.1,z⟩);clear F I t0 t1 t2 t3 x d;by_cases E:c=0;rotate_left
   ·have S:¬(0:Int)=c:=λe=>E e.symm;go_wp2_with fail;exact aD (v:=ax #[.pointer none,ae c]) (by simp[results,results85,go_sem]) rfl ⟨λa=>(by cases a),λ_ a=>absurd q a,λ_ _=>⟨v,c,w2,b,z,λ_=>⟨rfl,aZ⟩,λa=>absurd a E⟩⟩
   ·subst E;go_wp2_with fail;have J:Hid (∃j h,(j=b.alloc (.cells #[ae v.1,ae v.2] 184)/\h=b.heap.size)/\ap b j/\j.heap[h]?=some (.cells #[ae v.1,ae v.2] 184)):=⟨_,_,⟨rfl,rfl⟩,aZ,aK _ _⟩;obtain⟨j,h,⟨N,M⟩,f⟩:=J.out;rw[<-N,<-M];replace f:=av f;clear N M J;have B:Hid (∀w':ah,ap j w'->w'.cell? ⟨w.heap.size+1,0,none⟩=some (ae room)/\w'.cell? ⟨w.heap.size+1,1,none⟩=some tv/\w'.cell? ⟨w.heap.size+1,2,none⟩=some lv/\w'.cell? ⟨w.heap.size+1,3,none⟩=some mv/\ai w' h 0 (ae v.1)/\ai w' h 1 (ae v.2)):=λw' a=>by
     have p:=(a.block h (aR.1 f.2).1).trans f.2;have L:=(aR.1 u).1;have g:=(a.block _ (bf L f.1.size)).trans ((f.1.block _ L).trans u);exact⟨aC g 0,aC g 1,aC g 2,aC g 3,aC p 0,aC p 1⟩
    obtain⟨T,U,V,W,X,Y⟩:=B.out j (aG _ _);have D:Hid (ap j j.drew):=(aG _ _).drew
    go_region_held3 (λw'=>w'.cell? ⟨w.heap.size+1,0,none⟩=some (ae room)/\w'.cell? ⟨w.heap.size+1,1,none⟩=some tv/\w'.cell? ⟨w.heap.size+1,2,none⟩=some lv/\w'.cell? ⟨w.heap.size+1,3,none⟩=some mv/\w'.cell? ⟨h,0,none⟩=some (ae v.1)/\w'.cell? ⟨h,1,none⟩=some (ae v.2)) (first|(go_keep;done)|with_reducible exact B _ D|exact B _ A|exact B _ (A.trans (aZ.mono A.size)))
     ((go_at_call 112;refine(R _).mono ?_;rintro e s ⟨rfl,K⟩;have A:=av (D.trans (K.mono D.size));clear K))
    go_wp2_with fail;exact aD (v:=ax #[aE s.heap.size,ae 0]) (by simp[results,results85,go_sem]) rfl ⟨λa=>(by cases a),λ_ a=>absurd q a,λ_ _=>⟨v,0,w2,b,z,λa=>absurd rfl a,λ_=>⟨s,tv,lv,mv,rfl,f.out.1.trans (A.out.mono f.out.1.size),u.out,rfl⟩⟩⟩
def fw(N:Nat)(x:Tm N)(room:Int)(name:aq):Int:=if ei name=false then 5 else if¬(0<=room/\room<=1000)then 1 else jm N x room []
def PU(N:Nat)(x:Tm N)(room:Int)(name:aq)(w:ah)(e:Ending)(w':ah):Prop:=
 (fw N x room name≠0->e=aw (ax #[.pointer none,ae (fw N x room name)])/\ap w w')/\
 (fw N x room name=0->∃a,e=aw (ax #[aE a,ae 0])/\Hid (w.heap.size<=a/\ap w w'/\∃g d f c,cV w.heap.size a name room N x [] [] 201 (λb=>w.heap.size<=b/\b<w'.heap.size) w' g d f [] none 0 c))
theorem yD{s:aq}(a:ei s=true):s.size<=2048:=by
 simp only[ei,qX,aS,cU]at a;omega
theorem In.offBelow{B:Nat}{w:ah}:{n:Nat}->{x:Tm n}->In B w n x->cF (λb=>b<B) n x
 | 0,_,k=>k
 | _+1,_,k=>by
  obtain⟨_,a⟩:=k;rcases a with a|⟨b,o,e,c,a⟩
  ·exact ak a
  ·exact am ⟨b,o,e,c,λi y d=>(a i y d).2.offBelow⟩
theorem CT(N:Nat)(x:Tm (N+1))(room:Int)(name:aq)(w:ah)(ax:name.size<=9223372036854775807)(O:In w.heap.size w (N+1) x)(ai:(aH (N+1) x).length<=2097152):au 85 #[af name,dF (N+1) x,ae room] w (PU (N+1) x room name w):=by
 refine(I8 name x.1.1 x.1.2.1 x.1.2.2 x.2.1.1 x.2.2.length x.2.1.2 room w (ei name) (λe l o p=>ap w p/\zJ (N+1) x w.heap.size (cQ.own (w.heap.size+1)) room [] [] (λb=>b=w.heap.size+1) e l o p) ?_ ?_ ?_).mono ?_
 ·intro D;exact je name D ax
 ·intro a D;exact eu name D (yD a)
 ·intro d o H aJ m;have s:=m.size;have aa:dZ w.heap.size (cQ.own (w.heap.size+1)) room [] [] (λb=>b=w.heap.size+1) o:=⟨ag none 0 0,ag none 0 0,.map none,H,eW _ _ _ _,⟨eW _ _ _ _,by simp,ak ⟨rfl,rfl,rfl⟩⟩,rfl,λb f=>by simp[Value.ownBlock]at f,λb f=>by simp[Value.ownBlock]at f,λb f=>by simp[mapBlock]at f⟩;refine(we (N+1) x w.heap.size (cQ.own (w.heap.size+1)) room [] [] (λb=>b=w.heap.size+1) o aa ((O.below m).mono s) ((In.offBelow O).mono λb c f=>by omega) ai s d.1 d.2 (by simp) (by simp)).mono ?_;intro f p aw;obtain⟨e,l,rfl,i⟩:=AH aw;have I:∀{E:aW},cm E o p->(∀b,E b->w.heap.size<=b)->ap w p:=λk aj=>⟨k.os.trans m.os,k.tape.trans m.tape,k.output.trans m.output,aF s k.size,λb L=>(k.block b (bf L s) λc=>by have:=aj b c;omega).trans (m.block b L)⟩;refine⟨e,l,rfl,?_⟩;by_cases g:l=0
  ·obtain⟨_,_,t,P⟩:=i.2.2 g;obtain⟨C,A,B,ad,_⟩:=t;exact⟨C,A,B,ad.2,I P λb c=>by omega,i⟩
  ·have n:=(i.2.1 g).2;exact⟨_,_,_,(n.block _ (by omega)).trans H.2,I (bB n λ_=>False) λb c=>c.elim,i⟩
 ·rintro f aN ⟨X,Y,Z⟩;cases hn:ei name with
  | false=>
   have h:fw (N+1) x room name=5:=by simp[fw,hn]
   refine⟨λ_=>by rw[h];exact X hn,λa=>by rw[h]at a;cases a⟩
  | true=>
   by_cases d:0<=room/\room<=1000;rotate_left
   ·have h:fw (N+1) x room name=1:=by simp[fw,hn,d]
    refine⟨λ_=>by rw[h];exact Y hn d,λa=>by rw[h]at a;cases a⟩
   ·obtain⟨e,l,o,p,Q,d1,d2⟩:=Z hn d;obtain⟨aD,aL,n,i⟩:=Q;have h:fw (N+1) x room name=l:=by rw[i.1];simp[fw,hn,d]
    have M:=n.size;rw[PU,h];refine⟨λg=>⟨(d1 g).1,n.trans ((d1 g).2.mono M)⟩,λg=>?_⟩;obtain⟨j,C,A,B,rfl,r,J,rfl⟩:=d2 g;have aG:=r.size;obtain⟨K,ay,t,P⟩:=i.2.2 g;have ar:=t.nodup;have ab:=(t.later r);obtain⟨y,u,v,R,S,T,aC,U,V,W⟩:=ab;have an:=(aR.1 J).1;have F:(Obj.cells #[ae room,y,u,v] 193)=(Obj.cells #[ae room,C,A,B] 193):=aI (R.2.symm.trans ((r.block _ an).trans J));simp only[Obj.cells.injEq,Array.mk.injEq,lB,gT,true_and]at F;obtain⟨rfl,rfl,rfl⟩:=F;have z:ap j (j.alloc (.cells #[af name,ae room,y,u,v,ae e.1,ae e.2,ag none 0 0] 195)):=aZ;have az:(j.alloc (.cells #[af name,ae room,y,u,v,ae e.1,ae e.2,ag none 0 0] 195)).heap.size=j.heap.size+1:=by simp
    refine⟨j.heap.size,rfl,by omega,(n.trans (r.mono M)).trans (z.mono (by omega)),(bv (N+1) x [] []).2.1,(bv (N+1) x [] []).2.2,e,λb=>b=j.heap.size\/(w.heap.size<=b/\b<j.heap.size),?_⟩;have al:kM (N+1) [] [] room [] ([]:List (Tm (N+1))):=⟨⟨rfl,λaM e aA a=>by simp at a⟩,by simp,λaA a=>by simp at a,by simp,by simp;exact d.1,d.1,d.2,by simp⟩;have ao:=al.lay x K ar;have av:=(jf (N+1) x [] []).2;have aE:=jP K.1;simp only[eV]at av;refine⟨⟨y,u,v,⟨⟨rfl,am rfl⟩,aK _ _⟩,ez S (bB z λ_=>False) (λ_ _ c=>c),T.kept (bB z λ_=>False) (λ_ _ c=>c) (λ_ _ c=>c),ak rfl,λb c=>am ?_,λb c=>am ?_,λb c=>am ?_⟩,ak ⟨rfl,rfl,rfl⟩,?_,rfl,by omega,λb c=>?_,λaB a=>by cases a⟩
    ·have a:=U b c;have G:=a.2;rcases a.1 with q|q<;>exact⟨by omega,by omega⟩
    ·have a:=V b c;have G:=a.2;rcases a.1 with q|q<;>exact⟨by omega,by omega⟩
    ·have a:=W b c;have G:=a.2;rcases a.1 with q|q<;>exact⟨by omega,by omega⟩
    ·rw[ay];exact ao
    ·rw[az];rcases c with c|c<;>exact⟨by omega,by omega⟩
def vh(w:ah)(c:Nat)(a b:Int):ah:=(w.setCell ⟨c,5,none⟩ (ae a)).setCell ⟨c,6,none⟩ (ae b)
def Qr(b d e:Nat)(t0 t1:Int)(t2:aq)(g:ay)(i h:Nat)(s0 s1:Int)(f:aq)(sa:ay)(sl sc:Nat)(W:ah):Prop:=
 W.heap[d]?=some (.cells #[ae t0,ae t1,af t2,ag g i h] 54)/\W.heap[e]?=some (.cells #[ae s0,ae s1,af f,ag sa sl sc] 54)/\(∃a,W.cell? ⟨b,5,none⟩=some (ae a))/\(∃a,W.cell? ⟨b,6,none⟩=some (ae a))/\∀c,W.frozen? ⟨b,c,none⟩=false
theorem By(t0 t1:Int)(t2:aq)(m:ay)(o n:Nat)(c:Nat)(w:ah)(S:Int->Int->aq->ay->Nat->Nat->bF)(P1:ah->Wd->Int->bF)(R:Bool->bF)(aL:Hid (∀W,ap w W->au 93 #[aE c] W λe w'=>∃s0 s1 h sa sl sc,e=aw (.agg #[ae s0,ae s1,af h,ag sa sl sc])/\Hid (ap W w'/\S s0 s1 h sa sl sc w')))(aF:Hid (∀W,ap w W->(∃a,ai W c 5 (ae a))/\(∃a,ai W c 6 (ae a))/\(∀j,W.frozen? ⟨c,j,none⟩=false)/\c<w.heap.size))(aJ:Hid (∀s0 s1 h sa sl sc aT H g i,S s0 s1 h sa sl sc aT->ap aT H->ap w H->w.heap.size<=g->w.heap.size<=i->Qr c g i t0 t1 t2 m o n s0 s1 h sa sl sc (vh H c 1 0)->au 185 #[aE c,.agg #[ae t0,ae t1,af t2,ag m o n]] (vh H c 1 0) λe w'=>∃(v:Wd)(r:Int),e=aw (ax #[.agg #[ae v.1,ae v.2],ae r])/\Hid (Qr c g i t0 t1 t2 m o n s0 s1 h sa sl sc w'/\P1 H v r w'/\ (r=0->∀W,ap w' W->R true (vh W c v.1 v.2))/\ (r≠0->∀W d,ap w' W->w'.heap.size<=d->d<W.heap.size->au 185 #[aE c,.agg #[ae s0,ae s1,af h,ag sa sl sc]] W λe L=>∃(v2:Wd)(aU:Int),e=aw (ax #[.agg #[ae v2.1,ae v2.2],ae aU])/\Hid ((∀ba,W.heap[d]?=some ba->L.heap[d]?=some ba)/\((∃a,ai L c 5 (ae a))/\(∃a,ai L c 6 (ae a))/\∀j,L.frozen? ⟨c,j,none⟩=false)/\∀aS,bH (λb=>b=d) L aS->R false (vh aS c v2.1 v2.2)))))):au 180 #[aE c,.agg #[ae t0,ae t1,af t2,ag m o n]] w λe w'=>∃t,e=aw (.bool t)/\Hid (R t w'):=by
 have aN:Hid (∃Y l,(Y=w.alloc (.cells #[ae t0,ae t1,af t2,ag m o n] 54)/\l=w.heap.size)/\ap w Y/\Y.heap[l]?=some (.cells #[ae t0,ae t1,af t2,ag m o n] 54)/\w.heap.size<=l):=⟨_,_,⟨rfl,rfl⟩,aV _ _,aK _ _,aA _⟩;go_enter func180,ntmps180;go_wp2_with fail;obtain⟨Y,g,⟨a6,a5⟩,aX,J,a2⟩:=aN.out;rw[<-a6,<-a5];have aa:=av aX;have x:=av J;have aG:=av a2;clear a6 a5 aX J a2 aN;refine(aL _ aa).mono ?_;rintro e Z ⟨s0,s1,h,sa,sl,sc,rfl,M⟩;have O:=av (aa.trans (M.1.mono aa.size));have aO:Hid (∃k l,(k=Z.alloc (.cells #[ae s0,ae s1,af h,ag sa sl sc] 54)/\l=Z.heap.size)/\ap Z k/\k.heap[l]?=some (.cells #[ae s0,ae s1,af h,ag sa sl sc] 54)/\w.heap.size<=l/\k.heap[g]?=some (.cells #[ae t0,ae t1,af t2,ag m o n] 54)):=by
  have bi:=(aR.1 x).1;have aW:=(M.1.block g bi).trans x;exact⟨_,_,⟨rfl,rfl⟩,aV _ _,aK _ _,O.size,((aV _ _).block g (aR.1 aW).1).trans aW⟩
 have aM:=av M.2;clear M aL x;go_upto_region 2 with fail;obtain⟨k,i,⟨a7,s⟩,ao,aZ,a3,J⟩:=aO.out;rw[<-a7,<-s];have ab:=av (O.trans (ao.mono O.size));have aC:=av ao;have al:=av aZ;have x:=av J;have aH:=av a3;clear a7 s ao aZ a3 J aO;obtain⟨⟨bp,bd⟩,⟨bq,be⟩,T,bu⟩:=aF.out k ab;have f5:=T 5;have f6:=T 6;have u:Hid (Qr c g i t0 t1 t2 m o n s0 s1 h sa sl sc (vh k c 1 0)):=by
  have a1:bH (λb=>b=c) k (vh k c 1 0):=bH.trans (bN k c 5 _) (bN _ c 6 _) λ_ _ e=>e;refine⟨(a1.block g (aR.1 x).1 (by have:=aG.out;omega)).trans x,(a1.block i (aR.1 al).1 (by have:=aH.out;omega)).trans al,⟨1,?_⟩,⟨0,?_⟩,λj=>?_⟩
  ·exact(dR 5 (by decide)).trans (iP _ _ _ bd)
  ·exact iP _ _ _ ((dR 6 (by decide)).trans be)
  ·unfold vh;rw[ib,ib];exact T j
 have ad:=av (aJ s0 s1 h sa sl sc Z k g i aM aC ab aG aH u);clear aJ T aF;go_upto_region 3 with fail;obtain⟨E,V⟩:∃E,E=vh k c 1 0:=⟨_,rfl⟩;rw[<-V]at ad u;unfold vh at V;rw[<-V];have bl:ai E g 0 (ae t0):=aj u.1 0;have bm:ai E g 1 (ae t1):=aj u.1 1;have bn:ai E g 2 (af t2):=aj u.1 2;have bo:ai E g 3 (ag m o n):=aj u.1 3;clear V bd be f5 f6 x al ab aC O aM u;go_wp2_with fail;refine ad.mono ?_;rintro e F ⟨v,r,rfl,q⟩;have aP:Hid (∃f l,(f=F.alloc (.cells #[ae v.1,ae v.2] 184)/\l=F.heap.size)/\ap F f/\f.heap[l]?=some (.cells #[ae v.1,ae v.2] 184)/\F.heap.size<=l):=⟨_,_,⟨rfl,rfl⟩,aV _ _,aK _ _,aA _⟩;go_upto_region 4 with fail;obtain⟨f,d,⟨a8,z⟩,aY,a0,a4⟩:=aP.out;rw[<-a8,<-z];have C:=av aY;have Q:=av a0;have aI:=av a4;clear a8 z aY a0 a4 aP bl bm bn bo ad;have P:Hid (c<F.heap.size):=by
  obtain⟨a,an⟩:=q.out.1.2.2.1;exact lL F ⟨c,5,none⟩ an
 have bf:Hid ((∃a,ai f c 5 (ae a))/\(∃a,ai f c 6 (ae a))/\∀j,f.frozen? ⟨c,j,none⟩=false):=by
  obtain⟨_,_,⟨a,an⟩,⟨b,bh⟩,y⟩:=q.out.1;refine⟨⟨a,(C.cell (p:=⟨c,5,none⟩) P).trans an⟩,⟨b,(C.cell (p:=⟨c,6,none⟩) P).trans bh⟩,λj=>?_⟩;have y:=y j;unfold World.frozen? at y ⊢;rw[C.out.block c P.out];exact y
 have br:ai f d 0 (ae v.1):=aj Q 0;have bs:ai f d 1 (ae v.2):=aj Q 1;by_cases I:r=0
 ·have G:=av (q.2.2.1 I f C);unfold vh at G;obtain⟨⟨a,X⟩,⟨b,az⟩,D⟩:=bf;have f5:=D 5;have f6:=D 6;clear D q;subst I;go_wp2_with fail
  go_ret
  exact⟨true,rfl,G⟩
 ·have bt:¬(0:Int)=r:=λe=>I e.symm;have bg:=av (q.2.2.2 I f d C aI (aR.1 Q).1);have s:=(C.block i (aR.1 q.1.2.1).1).trans q.1.2.1;have bx:ai f i 0 (ae s0):=aj s 0;have bz:ai f i 1 (ae s1):=aj s 1;have bA:ai f i 2 (af h):=aj s 2;have bB:ai f i 3 (ag sa sl sc):=aj s 3;clear s q;go_wp2_with fail;refine bg.mono ?_;rintro e A ⟨v2,aU,rfl,N⟩;have z:=N.1 _ Q;have bb:ai A d 0 (ae v.1):=aj z 0;have bc:ai A d 1 (ae v.2):=aj z 1;have aB:∀j,A.frozen? ⟨d,j,none⟩=false:=λj=>by simp[World.frozen?,z]
  have bj:=aB 0;have bk:=aB 1;have aQ:Hid (∃B,B=(A.setCell ⟨d,0,none⟩ (ae v2.1)).setCell ⟨d,1,none⟩ (ae v2.2)/\(ai B d 0 (ae v2.1)/\ai B d 1 (ae v2.2))/\bH (λb=>b=d) A B):=by
   refine⟨_,rfl,⟨?_,?_⟩,bH.trans (bN A d 0 _) (bN _ d 1 _) λ_ _ e=>e⟩
   ·exact(dR 0 (by decide)).trans (iP _ _ _ bb)
   ·exact iP _ _ _ ((dR 1 (by decide)).trans bc)
  clear aB z;go_upto_region 6 with fail;obtain⟨B,a9,⟨y0,y1⟩,K⟩:=aQ.out;rw[<-a9];have G:=av (N.2.2 B K);unfold vh at G;obtain⟨⟨a,X⟩,⟨b,az⟩,D⟩:=N.out.2.1;have U:=lL A ⟨c,5,none⟩ X;have ar:c≠d:=by have:=P.out;have:=aI.out;omega
  have bv:=(K.cell 5 U ar).trans X;have bw:=(K.cell 6 U ar).trans az;have am:∀j,B.frozen? ⟨c,j,none⟩=false:=λj=>by
   have y:=D j;unfold World.frozen? at y ⊢;rw[K.block c U ar];exact y
  have f5:=am 5;have f6:=am 6;clear a9 aQ K X az D am N bb bc bj bk U;go_wp2_with fail;exact aD (v:=.bool (r==0)) (by simp[results,results180,go_sem]) rfl (ak ⟨bZ (by simpa using I),G.out⟩)
def fT(n m:Nat):Option (Tm n)->Option (Tm m)->Prop
 | none,none=>True
 | some x,some y=>aJ n x m y=true
 | _,_=>False
theorem oq{l:Nat}{o:Option (Tm n)}{p:Option (Tm m)}{f:Tm n->Option (Tm k)}{g:Tm m->Option (Tm l)}(a:fT n m o p)(b:∀x y,aJ n x m y=true->fT k l (f x) (g y)):fT k l (o.bind f) (p.bind g):=by
 cases o with
 | none=>
  cases p with
  | none=>trivial
  | some _=>exact a.elim
 | some x=>
  cases p with
  | none=>exact a.elim
  | some y=>exact b x y a
theorem jh(c:n<=N)(b:m<=M){x:Tm n}{y:Tm m}(d:aL ⟨n,x⟩)(e:aL ⟨m,y⟩)(a:aJ n x m y=true):aJ N (bj N n x) M (bj M m y)=true:=
 bV _ _ _ _ _ _ (fR N n c x d) (bV _ _ _ _ _ _ a (dE _ _ _ _ (fR M m b y e)))
theorem lR:(n:Nat)->(x:Tm n)->(m:Nat)->(y:Tm m)->aJ n x m y=true->ci ⟨n,x⟩=ci ⟨m,y⟩/\qr n x=qr m y
 | 0,_,_,_,h=>by simp[aJ]at h
 | _+1,_,0,_,h=>by simp[aJ]at h
 | n+1,x,m+1,y,h=>by
  simp only[aJ,aS,cT]at h;exact⟨h.1.1.1,h.1.1.2⟩
theorem zn{a c:Tm N}{b d:Tm M}(h:aJ N a M b=true)(i:aJ N c M d=true):fT (N+1) (M+1) (uQ N a c) (uQ M b d):=by
 have e:=lR _ _ _ _ h;have f:=lR _ _ _ _ i;have g:AW N a c=AW M b d:=by
  unfold AW;rw[e.1,e.2,f.1,f.2]
 unfold uQ;rw[<-g,<-e.2,<-f.2];cases AW N a c
 ·simp[fT]
 ·simp[fT,aJ,cw,aN]
theorem vv{i:Type}{N M:Nat}(f:i->Option (Tm N))(g:i->Option (Tm M)):(p:List i)->(∀a∈p,fT N M (f a) (g a))->fT (N+1) (M+1) ((cZ f p).map (dS N)) ((cZ g p).map (dS M))/\((cZ f p=none/\cZ g p=none)\/∃l r,cZ f p=some l/\cZ g p=some r/\aN (λx y=>aJ N x M y) l r=true)
 | [],_=>⟨by simp[cZ,fT,aJ,dS,aN],am ⟨[],[],rfl,rfl,rfl⟩⟩
 | a::p,h=>by
  have b:=h a (by simp);have n:=(vv f g p λx o=>h x (by simp[o])).2;simp only[cZ];cases e1:f a with
  | none=>
   rw[e1]at b;cases c:g a with
   | none=>simp[fT]
   | some _=>rw[c]at b;exact b.elim
  | some m=>
   rw[e1]at b;cases c:g a with
   | none=>rw[c]at b;exact b.elim
   | some v=>
    rw[c]at b;have j:aJ N m M v=true:=b;rcases n with⟨d,e⟩|⟨l,r,d,e,k⟩
    ·rw[d,e];simp[fT]
    ·rw[d,e];exact⟨by simp[fT,aJ,dS,aN,j,k],am ⟨m::l,v::r,rfl,rfl,by simp[aN,j,k]⟩⟩
theorem sO(m:Nat)(b:List (Tm m))(f:Nat)(a:List (Tm f))(self:Int)(i:aN (λx y=>aJ m x f y) b a=true)(p:∀y∈b,aL ⟨m,y⟩)(q:∀y∈a,aL ⟨f,y⟩):(n:Nat)->(x:Tm n)->aL ⟨n,x⟩->fT (m+n) (f+n) (vl m b self n x) (vl f a self n x)
 | 0,_,_=>trivial
 | n+1,x,hx=>by
  have z:=cW _ _ _ i;have w:aJ (n+1) x (n+1) x=true:=fS _ _ hx;unfold vl;by_cases k:x.1.1=5
  ·rw[if_pos k,if_pos k];cases e:b[x.1.2.1.toNat]? with
   | none=>
    have g:a[x.1.2.1.toNat]?=none:=by
     rw[List.getElem?_eq_none_iff]at e ⊢;omega
    rw[g];trivial
   | some y=>
    obtain⟨u,_⟩:=bi.1 e;have g:a[x.1.2.1.toNat]?=some a[x.1.2.1.toNat]:=aU (by omega);rw[g];have s:aJ m y f a[x.1.2.1.toNat]=true:=jZ _ _ _ i _ _ _ e g;simp only[dT];rw[<-(lR _ _ _ _ s).1];by_cases d:ci ⟨m,y⟩=6
    ·rw[if_pos d,if_pos d];trivial
    ·rw[if_neg d,if_neg d];exact jh (by omega) (by omega) (p y (aT e)) (q _ (aT g)) s
  ·rw[if_neg k,if_neg k];by_cases d:x.1.1=6
   ·rw[if_pos d,if_pos d];trivial
   ·rw[if_neg d,if_neg d];by_cases j:x.1.1=4
    ·rw[if_pos j,if_pos j];by_cases r:uY n x.2.2 qF 0=true
     ·rw[if_pos r,if_pos r];simp[fT,aJ,cw,aN]
     ·rw[if_neg r,if_neg r];by_cases l:uY n x.2.2 A7 2=true
      ·rw[if_pos l,if_pos l];cases e1:x.2.2[1]? with
       | none=>trivial
       | some h=>
        cases g:x.2.2[2]? with
        | none=>trivial
        | some c=>
         simp only[dT];exact oq (sO m b f a self i p q n h (bt n x h hx (aT e1))) λA C u=>oq (sO m b f a self i p q n c (bt n x c hx (aT g))) λB D v=>zn u v
      ·rw[if_neg l,if_neg l];by_cases o:uY n x.2.2 DD 1=true
       ·rw[if_pos o,if_pos o];cases e1:x.2.2[1]? with
        | none=>trivial
        | some h=>
         have t:=bt n x h hx (aT e1);simp only[dT];cases aX n h
         ·simp[fT]
         ·exact jh (by omega) (by omega) t t (fS _ _ t)
       ·rw[if_neg o,if_neg o];exact(vv _ _ x.2.2 λy s=>sO m b f a self i p q n y (bt n x y hx s)).1
    ·rw[if_neg j,if_neg j];exact jh (by omega) (by omega) hx hx w
def MB:(D:Nat)->(n:Nat)->Tm n->Tm D
 | 0,_,_=>()
 | _+1,0,_=>((0,0,.empty),(none,0),[])
 | D+1,n+1,x=>(x.1,(none,0),x.2.2.map λy=>MB D n y)
theorem Ki:(D:Nat)->(n:Nat)->(x:Tm n)->(m:Nat)->(y:Tm m)->aJ n x m y=true->MB D n x=MB D m y
 | 0,_,_,_,_,_=>rfl
 | D+1,0,_,_,_,h=>by simp[aJ]at h
 | D+1,n+1,_,0,_,h=>by simp[aJ]at h
 | D+1,n+1,x,m+1,y,h=>by
  obtain⟨c,d⟩:=bU h;have e:=jo _ (λa=>MB D n a) (λb=>MB D m b) _ _ (λa _ b f=>Ki D n a m b f) d;simp only[MB,c,e];rfl
theorem BU{n:Nat}:(l:List (Tm n))->(m:Int)->m<=l.foldl (λm y=>max m (gJ n y)) m/\∀y∈l,gJ n y<=l.foldl (λm y=>max m (gJ n y)) m
 | [],m=>⟨kj _,λy b=>by simp at b⟩
 | a::l,m=>by
  obtain⟨d,c⟩:=BU l (max m (gJ n a));simp only[gg];refine⟨by omega,λy b=>?_⟩;rcases cq.1 b with rfl|b
  ·omega
  ·exact c y b
theorem oW{x:Tm (n+1)}(e:aL ⟨n+1,x⟩){y:Tm n}(c:y∈x.2.2):gJ n y+1<=gJ (n+1) x:=by
 have d:x.1.1=4:=by
  have b:=e _ (qi ..);simp only[cM,aS,ki,cT,p8,decide_eq_false_iff_not]at b;rcases b.2 with a|a
  ·exact a
  ·have:=List.length_pos_of_mem c;omega
 have:=(BU x.2.2 0).2 y c;simp only[gJ,if_pos d];omega
theorem BB:(D:Nat)->(n:Nat)->(x:Tm n)->aL ⟨n,x⟩->gJ n x<D->aJ D (MB D n x) n x=true
 | _,0,_,h,_=>(dG h).elim
 | 0,n+1,x,_,h=>by
  have:=(ij (n+1) x).1;omega
 | D+1,n+1,x,hr,h=>dC rfl (jp _ _ _ λy a=>BB D n y (bt n x y hr a) (by
  have:=oW hr a
  omega))
theorem jV:(D:Nat)->(n:Nat)->(x:Tm n)->aL ⟨n,x⟩->gJ n x<D->aJ D (bj D n x) n x=true
 | _,0,_,h,_=>(dG h).elim
 | 0,n+1,x,_,h=>by
  have:=(ij (n+1) x).1;omega
 | D+1,n+1,x,hr,h=>dC rfl (jp _ _ _ λy a=>jV D n y (bt n x y hr a) (by
  have:=oW hr a
  omega))
theorem Ll(D n:Nat)(x:Tm n)(w:ah)(b o:Nat)(g:0<D)(k:eg w b o n x):eg w b o D (bj D n x):=by
 cases n with
 | zero=>exact k.elim
 | succ n=>
  obtain⟨D,rfl⟩:∃a,D=a+1:=⟨D-1,by omega⟩;obtain⟨c,d,e,f⟩:=k;exact⟨c,d,e,by simpa [bj]using f⟩
theorem tD:(D n:Nat)->(x:Tm n)->(B:Nat)->(w:ah)->aL ⟨n,x⟩->gJ n x<D->In B w n x->In B w D (bj D n x)
 | _,0,_,_,_,_,_,k=>k.elim
 | 0,n+1,x,_,_,_,h,_=>by
  have:=(ij (n+1) x).1;omega
 | D+1,n+1,x,B,w,hr,h,k=>by
  obtain⟨l,a⟩:=k;refine⟨by simpa [bj]using l,?_⟩;rcases a with a|⟨b,o,e,j,a⟩
  ·exact ak (by simp[bj,a])
  ·refine am ⟨b,o,e,j,λi y g=>?_⟩;simp only[bj,dh]at g;obtain⟨c,d,rfl⟩:=cI.1 g;have f:=aT d;have p:=oW hr f;have m:=(ij n c).1;exact⟨Ll D n c w b _ (by omega) (a i c d).1,tD D n c B w (bt n x c hr f) (by omega) (a i c d).2⟩
theorem Aw(D n:Nat)(x:Tm (n+1)):dF (D+1) (bj (D+1) (n+1) x)=dF (n+1) x:=by
 simp[dF,bj]
theorem uZ:(D n:Nat)->(x:Tm n)->(P:aW)->aL ⟨n,x⟩->gJ n x<D->cF P n x->cF P D (bj D n x)
 | _,0,_,_,h,_,_=>(dG h).elim
 | 0,n+1,x,_,_,h,_=>by
  have:=(ij (n+1) x).1;omega
 | D+1,n+1,x,P,hr,h,k=>by
  rcases k with k|⟨b,o,e,g,k⟩
  ·exact ak (by simp[bj,k])
  ·refine am ⟨b,o,e,g,λi y d=>?_⟩;simp only[bj,dh]at d;obtain⟨a,f,rfl⟩:=cI.1 d;have c:=aT f;have j:=oW hr c;exact uZ D n a P (bt n x a hr c) (by omega) (k i a f)
abbrev Tc:Type:=Tm 13
def cn(n:Nat)(x:Tm n):Tc:=MB 13 n x
theorem gB{x:Tm n}{y:Tm m}(a:aJ n x m y=true):cn n x=cn m y:=Ki 13 n x m y a
theorem eG{x:Tm n}(a:bK n x=0):aJ 13 (cn n x) n x=true:=by
 obtain⟨b,c,_⟩:=bT.1 a;exact BB 13 n x (aY.2 b) (by omega)
theorem MW{x:Tm n}(a:bK n x=0):cn 13 (cn n x)=cn n x:=gB (eG a)
theorem oV{x:Tm n}(a:bK n x=0):bK 13 (cn n x)=0:=by rw[bO (eG a),a]
theorem Gb{x:Tm n}(a:bK n x=0):sz 13 (cn n x)=sz n x:=kX _ _ _ _ (eG a)
theorem mX{x:Tm n}(a:bK n x=0):aX 13 (cn n x)=aX n x:=cG _ _ _ _ (eG a)
theorem QK:(p:List (Tm n))->(q:List (Tm m))->aN (λx y=>aJ n x m y) p q=true->p.map (cn n)=q.map (cn m):=λp q a=>jo _ _ _ p q (λ_ _ _ b=>gB b) a
def nV:List An:=oP 1 (List.replicate 4 fF)
def P4(a:An):Tc:=cn a.1 a.2
def mj{n:Nat}(c:Cl (n+1))(s m:Tc):Option (List Tc):=(jb (n+1) c.1.1 13 s nV).bind λb=>(jb (n+1) c.1.2.1 13 m b).map λa=>a.map P4
def mW{n:Nat}(s m:Tc):List (Cl (n+1))->Option (Cl (n+1)×List Tc)
 | []=>none
 | c::l=>match mj c s m with
  | some b=>some (c,b)
  | none=>mW s m l
def tf{n:Nat}(l:List (Cl (n+1)))(s:Tc):List Tc->Nat->Option (Nat×Cl (n+1)×List Tc)
 | [],_=>none
 | m::ms,i=>match mW s m l with
  | some x=>some (i,x)
  | none=>tf l s ms (i+1)
theorem IR{x y:An}(a:eI x y=true)(d:DR y):DR x:=by
 obtain⟨b,c⟩:=d;refine⟨(bO a).trans b,?_⟩;rw[wj a,cG _ _ _ _ a];exact c
theorem tN{d g:Type}(f:d->g->Bool):(p:List d)->(q:List g)->aN f p q=true->∀x∈p,∃y∈q,f x y=true
 | [],_,_,x,c=>by simp at c
 | _::_,[],h,_,_=>by simp[aN]at h
 | a::p,b::q,h,x,c=>by
  simp only[aN,aS]at h;rcases cq.1 c with rfl|c
  ·exact⟨b,by simp,h.1⟩
  ·obtain⟨y,i,e⟩:=tN f p q h.2 x c;exact⟨y,b9 _ i,e⟩
theorem IS(a:aN eI p q=true)(b:∀y∈q,DR y):∀x∈p,DR x:=λx c=>by
 obtain⟨y,d,e⟩:=tN _ _ _ a x c;exact IR e (b y d)
theorem sZ{n:Nat}:(l:List (Tm n))->(b:List An)->(∀y∈b,aL y/\y.1<=n)->aN (λx y=>aJ n x n y) l (b.map λa=>bj n a.1 a.2)=true->aN eI (oP n l) b=true
 | [],[],_,_=>rfl
 | [],_::_,_,h=>by simp[aN]at h
 | _::_,[],_,h=>by simp[aN]at h
 | x::l,a::b,hb,h=>by
  simp only[bA,aN,aS]at h;simp only[oP,bA,aN,aS];obtain⟨c,d⟩:=hb a (by simp);exact⟨bV _ _ _ _ _ _ h.1 (fR n a.1 d a.2 c),sZ l b (λy e=>hb y (b9 _ e)) h.2⟩
theorem Kq(a:aN eI p q=true):p.map P4=q.map P4:=jo _ _ _ p q (λ_ _ _ b=>gB b) a
theorem vw:aN eI nV nV=true:=by
 refine jq _ _ λa b=>?_;exact fS _ _ (sC (DU a b))
theorem Oq{x:Tm n}(a:bK n x=0)(b:aX n x=true):DR ⟨n,x⟩:=⟨a,am b⟩
theorem cF.both{P Q:aW}:{n:Nat}->{x:Tm n}->cF P n x->cF Q n x->cF (λb=>P b/\Q b) n x
 | 0,_,p,_=>p
 | _+1,_,p,k=>by
  rcases p with p|⟨b,o,e,g,p⟩
  ·exact ak p
  ·rcases k with k|⟨j,l,a,h,k⟩
   ·exact ak k
   ·rw[e]at a;injection a with a;injection a with d f;subst d f;exact am ⟨b,o,e,⟨g,h⟩,λi y c=>(p i y c).both (k i y c)⟩
structure rM (D:Nat) (l:List (Tm D)) (B:List Tc) (b0:Nat) (w':ah) (bg bc:Nat):Prop where
 bnd:gG D l=true
 tells:l.map (cn D)=B
 cap:4<=bc/\bc<=maxLen
 new:b0<=bg/\bg<w'.heap.size
 at':∀(i:Nat)(y:Tm D),l[i]?=some y->eg w' bg (i*4) D y/\In w'.heap.size w' D y/\cF (λq=>b0<=q/\q≠bg) D y
 free:∀j,w'.frozen? ⟨bg,j,none⟩=false
def Om{n:Nat}(c:Cl (n+1))(s m:Tc)(w:ah)(e:Ending)(w':ah):Prop:=
 ∃b len f g,e=aw (ax #[ag b len f,.bool g])/\Hid (ap w w'/\g=(mj c s m).isSome/\∀a,mj c s m=some a->len=4/\∃h l d,b=some ⟨d,0,none⟩/\rM h l a w.heap.size w' d f)
theorem KL(c:Cl (n+1))(s:Tm (m+1))(t:Tm (k+1))(R:bK (n+1) c.1.1=0)(S:bK (n+1) c.1.2.1=0)(A:bK (m+1) s=0)(T:aX (m+1) s=true)(B:bK (k+1) t=0)(U:aX (k+1) t=true){e:Ending}(Q:JU (jb (n+1) c.1.1 (m+1) s nV) (jb (n+1) c.1.2.1 (k+1) t) w e w'):Om c (cn (m+1) s) (cn (k+1) t) w e w':=by
 obtain⟨K,len,P,aq,rfl,J⟩:=Q;obtain⟨V,Z,ae⟩:=J;refine⟨K,len,P,aq,rfl,V,?_⟩;have f:=mZ (n+1) c.1.1 (m+1) s (n+1) c.1.1 13 (cn (m+1) s) nV nV (fS _ _ (aY.2 (bT.1 R).1)) (dE _ _ _ _ (eG A)) vw;cases e1:jb (n+1) c.1.1 (m+1) s nV with
 | none=>
  rw[e1]at f;cases e2:jb (n+1) c.1.1 13 (cn (m+1) s) nV with
  | some _=>
   rw[e2]at f;exact f.elim
  | none=>
   have j:mj c (cn (m+1) s) (cn (k+1) t)=none:=by simp[mj,e2]
   rw[j];exact⟨Z e1,λz i=>by cases i⟩
 | some b=>
  rw[e1]at f;cases e2:jb (n+1) c.1.1 13 (cn (m+1) s) nV with
  | none=>
   rw[e2]at f;exact f.elim
  | some q=>
   rw[e2]at f;have r:=lP DR pi (n+1) c.1.1 (m+1) s (Oq A T) nV b ⟨by simp[nV,oP],DU⟩ e1;obtain⟨o,X,aa,af⟩:=ae b e1;have p:aN eI (oP (nQ b) o) b=true:=sZ o b (λa d=>⟨sC (r.2 a d),A2 b a d⟩) X;have L:aN eI (oP (nQ b) o) q=true:=pr eI eI eI _ _ _ (λH _ a I ak G=>bV H.1 H.2 a.1 a.2 I.1 I.2 ak G) p f;have g:=mZ (n+1) c.1.2.1 (k+1) t (n+1) c.1.2.1 13 (cn (k+1) t) _ _ (fS _ _ (aY.2 (bT.1 S).1)) (dE _ _ _ _ (eG B)) L;cases e3:jb (n+1) c.1.2.1 (k+1) t (oP (nQ b) o)with
   | none=>
    rw[e3]at g;cases e4:jb (n+1) c.1.2.1 13 (cn (k+1) t) q with
    | some _=>
     rw[e4]at g;exact g.elim
    | none=>
     have j:mj c (cn (m+1) s) (cn (k+1) t)=none:=by simp[mj,e2,e4]
     rw[j];exact⟨aa e3,λz i=>by cases i⟩
   | some h=>
    rw[e3]at g;cases e4:jb (n+1) c.1.2.1 13 (cn (k+1) t) q with
    | none=>
     rw[e4]at g;exact g.elim
    | some N=>
     rw[e4]at g;have j:mj c (cn (m+1) s) (cn (k+1) t)=some (N.map P4):=by simp[mj,e2,e4]
     rw[j];obtain⟨ai,aj,E,aw,l,ar,F⟩:=af h e3;refine⟨ai,λz i=>⟨aj,nQ h,l,?_⟩⟩;cases i;have ab:=IS p r.2;have Y:(oP (nQ b) o).length=4:=by rw[cW _ _ _ p];exact r.1
     have C:=lP DR pi (n+1) c.1.2.1 (k+1) t (Oq B U) _ h ⟨Y,ab⟩ e3;have D:∀a∈h,aL a:=λa d=>sC (C.2 a d);obtain⟨_,v,ag,_⟩:=Gi F D E;have W:=zq C.2 v E ag;obtain⟨_,_,au,al,am,x⟩:=F;rcases x with x|⟨O,bo,rfl,⟨av,rfl,ao,ap⟩,an,y⟩
     ·rw[x]at v;simp at v
     ·refine⟨O,rfl,W,?_,⟨by omega,al⟩,⟨by omega,an⟩,λu a d=>⟨?_,(y u a d).2.1,(cF.both (y u a d).2.2 (ap a (aT d))).mono λG ad=>⟨by omega,ad.2⟩⟩,ao⟩;rotate_left
      ·have:=(y u a d).1;rw[cB]at this;exact this
      have M:aN eI (oP (nQ h) l) h=true:=sZ l h (λa d=>⟨D a d,A2 h a d⟩) am;rw[<-Kq g,<-Kq M];simp[oP,P4]
theorem I4(c:Cl (n+1))(s:Tm (m+1))(t:Tm (k+1))(B:Nat)(w:ah)(i:iQ (n+1) B w c)(j:In B w (m+1) s)(l:In B w (k+1) t)(h:B<=w.heap.size)(a:bK (n+1) c.1.1=0)(b:bK (n+1) c.1.2.1=0)(d:bK (m+1) s=0)(e:aX (m+1) s=true)(f:bK (k+1) t=0)(g:aX (k+1) t=true):au 177 #[.agg (fG (n+1) c).toArray,dF (m+1) s,dF (k+1) t] w (Om c (cn (m+1) s) (cn (k+1) t) w):=
 (I3 n m k c s t B w i j l h a b d (by rw[<-fQ];exact e) f (by rw[<-fQ];exact g)).mono λ_ _ o=>KL c s t a b d e f g o
theorem mA:(N n:Nat)->n<=N->(x:Tm n)->aX N (bj N n x)=aX n x
 | 0,0,_,_=>rfl
 | _+1,0,_,_=>by simp[bj,aX]
 | 0,n+1,h,_=>by omega
 | N+1,n+1,h,x=>by
  have:(x.2.2.map λy=>bj N n y).all (λy=>aX N y)=x.2.2.all λy=>aX n y:=by
   rw[List.all_map];congr 1;funext y;exact mA N n (by omega) y
  simp only[aX,bj];rw[this]
theorem zx(m:Nat)(b:List (Tm m))(self:Int)(k:∀y∈b,ci ⟨m,y⟩=6\/aX m y=true):(n:Nat)->(x:Tm n)->aL ⟨n,x⟩->(j:Tm (m+n))->vl m b self n x=some j->aX (m+n) j=true
 | 0,_,_,_,d=>by simp[vl]at d
 | n+1,x,hr,j,d=>by
  have p:=eX (bQ n x) (hr (bQ n x) (by simp[aH,bQ]));by_cases g:x.1.1=6
  ·rw[Ms m b self n x g]at d;cases d
  ·by_cases f:x.1.1=5
   ·simp only[vl,f,cC]at d;obtain⟨y,h,d⟩:=cu.1 d;split at d
    ·cases d
    ·rename_i t;obtain rfl:=aI d;exact(mA (m+n+1) m (by omega) y).trans ((k y (aT h)).resolve_left t)
   ·by_cases e:x.1.1=4
    ·rw[Mt m b self n x e]at d;unfold xQ at d;split at d
     ·obtain rfl:=aI d;simp[cw,aX]
     ·split at d
      ·obtain⟨a,q,d⟩:=cu.1 d;obtain⟨c,D,d⟩:=cu.1 d;obtain⟨A,C,d⟩:=cu.1 d;obtain⟨B,E,d⟩:=cu.1 d;unfold uQ at d;split at d
       ·obtain rfl:=aI d;simp[cw,aX]
       ·cases d
      ·split at d
       ·obtain⟨a,q,d⟩:=cu.1 d;split at d
        ·rename_i r;obtain rfl:=aI d;exact(mA (m+n+1) n (by omega) a).trans r
        ·cases d
       ·obtain⟨l,u,rfl⟩:=cI.1 d;obtain⟨w,z⟩:=rU _ _ _ u;show aX (m+n+1) (dS (m+n) l)=true;simp only[aX,dS];simp only[aS,cY];refine⟨by decide,λy h=>?_⟩;obtain⟨i,o⟩:=di h;have s:i<x.2.2.length:=by rw[<-w];exact(bi.1 o).1
        exact zx m b self k n x.2.2[i] (bt n x _ hr (gh _)) y (z i _ y (aU s) o)
    ·rw[GR m b self n x e f g]at d;obtain rfl:=aI d;have v:x.2.2=[]:=b8 (p.2.2.2.2 e);refine(mA (m+n+1) (n+1) (by omega) x).trans ?_;simp[aX,f,g,v]
def gF(n:Nat)(name:aq):List (Bh n)->Option (Bh n)
 | []=>none
 | b::l=>if b.1=name then some b else gF n name l
def MV(n:Nat):Option (Bh n)->az
 | none=>ag none 0 0
 | some b=>ag b.2.1.1 b.2.2.length b.2.1.2
theorem pF(n:Nat)(name:aq){l:List (Bh n)}{j:Nat}{b:Bh n}(c:l[j]?=some b):gF n name (l.drop j)=if b.1=name then some b else gF n name (l.drop (j+1)):=by
 obtain⟨d,a⟩:=bi.1 c;rw[fp d,a];rfl
theorem vF(n:Nat)(name:aq)(l:List (Bh n))(r:ay)(D len B:Nat)(w:ah)(G:l.length=len)(H:len<=9223372036854775807)(z:B<=w.heap.size)(x:Hid (iW n B w r l)):au 154 #[ag r len D,af name] w λe w'=>e=aw (MV n (gF n name l))/\ap w w':=by
 go_enter func154,ntmps154;go_wp2_with fail;go_loopw [9] (λq wr=>∃a:Nat,a<=len/\q=ae a/\Hid (ap w wr/\gF n name l=gF n name (l.drop a))) (λq _=>len-(intOf q).toNat)
 case atStart=>exact⟨0,by omega,rfl,aG _ _,rfl⟩
 case round=>
 obtain⟨a,F,rfl,c⟩:=hrel;by_cases I:a<len
 ·obtain⟨b,d⟩:∃b,l[a]?=some b:=⟨l[a]'(by omega),aU _⟩;obtain⟨k,lo,rfl,C,v⟩:∃g o,r=some ⟨g,o,none⟩/\g<B/\Hid (∀(t:Nat)(f:az),(rK n b)[t]?=some f->ai w g (o+a*2+t) f):=by
   rcases x with e|⟨g,o,e,A,y⟩
   ·rw[e]at d;simp at d
   ·exact⟨g,o,e,A,(y a _ d).1⟩
  have i:∀(t:Nat)(f:az),(rK n b)[t]?=some f->ai wr k (lo+a*2+t) f:=λt f u=>(c.1.cell (p:=⟨k,lo+a*2+t,none⟩) (bf C z)).trans (v t f u);have E:ai wr k (lo+a*2) (af b.1):=i 0 _ rfl;have L:ai wr k (lo+a*2+1) (ag b.2.1.1 b.2.2.length b.2.1.2):=i 1 _ rfl;have J:(0:Int)<=(a:Int):=by omega
  have K:(a:Int)<(len:Int):=by omega
  have s:Hid (∀o:Obj,ap w (wr.alloc o)):=λo=>c.1.alloc c.1.size o;by_cases j:b.1=name
  ·have h:Hid (gF n name l=some b):=by
     show _=_;rw[c.out.2,pF n name d,if_pos j]
   have m:Hid (MV n (gF n name l)=ag b.2.1.1 b.2.2.length b.2.1.2):=by
    show _=_;rw[h.out];rfl
   rw[j]at E;clear i c h d;go_wp2_with fail
   go_ret
   rw[m.out];exact⟨rfl,s _⟩
  ·have h:Hid (gF n name l=gF n name (l.drop (a+1))):=by
     show _=_;rw[c.out.2,pF n name d,if_neg j]
   have u:(b.1.toList==name.toList)=false:=by
    rw[dL];intro e;rw[cD,cD]at e;exact j (ByteArray.ext (Array.ext' e))
   clear i c d;go_wp2_with fail;go_roundw
   case rel=>exact⟨a+1,by omega,by go_num,s _,h⟩
   case measure=>simp[intOf];omega
 ·obtain rfl:a=len:=by omega
  have m:Hid (MV n (gF n name l)=ag none 0 0):=by
   show _=_;rw[c.out.2,qd (by omega)];rfl
  have HB:=av c.1;clear c;go_wp2_with fail
  go_ret
  rw[m.out];exact⟨rfl,HB⟩
end Go.Proofs.YthjclakhibnamaaGreatDoor
