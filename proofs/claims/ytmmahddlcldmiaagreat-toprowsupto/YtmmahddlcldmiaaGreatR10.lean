/- Proved here: plain facts and contracts. No condition but what each names. -/
import Derived.Test.YtmmahddlcldmiaaGreatR09
import Derived.BigRegion
import Derived.ProofKit
import Derived.OpenShut
import Derived.JoinedCond
namespace Go.Proofs.YtmmahddlcldmiaaGreat
open Go.RowKit Go.Maps Go.Proofs.Tryz
open Go.RowKit
open Go.ChangeShapes Go.WideShapes Go.ChangeAt Go.RowKit
set_option maxRecDepth 100000
set_option maxHeartbeats 8000000
theorem Bp(xs:cX)(g len c:Nat)(w:ag)(v:Hid (xs.length=len*7))(t:Hid (∀d∈xs,d.oneCell'=true))(E:len<=2000000)(x:Hid (∀w1,am w w1->∀j d,xs[j]?=some d->w1.cell? ((⟨g,0,none⟩:Addr).add j)=some d)):ao 55 #[ae (some ⟨g,0,none⟩) len c] w λe w'=>∃r,e=.returned r/\Hid (am w w'/\w'.ownsRow w.heap.size 54 7 r len xs):=by
 obtain⟨C,l,o,p,q⟩:=bY KD;have a:=ap (⟨l,o,p,q⟩:_/\_/\_/\_);clear l o p q;have F:∀(w:ag)(b:ar)(n c h f:Nat),(binOp .eql 38 (ae b n c) (ae none h f)).run Tryz.prog w=.ok (.bool b.isNone) w:=λw b n c h f=>Lib.run_eql_slice_nil w _ _ b n c h f underlying38;have D:(some (⟨g,0,none⟩:Addr)).isNone=false:=rfl;go_enter func55,ntmps55;go_wp2_with (at_builtin;refine wpList_append_own _ rfl _ _ 38 rfl w.heap.size 54 C _ 7 88 underlying38 a.1 a.2.1 a.2.2.1 a.2.2.2 rfl (by decide) _ _ _ rfl (World.ownsRow_made w #[] 0 (av _) (aM _) (by simp)) ⟨g,0,none⟩ len c xs rfl ?qc1 ?qc2 ?qc3 ?qc4 ?qc5 ?qc6 ?_)
 case qc1=>exact v
 case qc2=>exact x _ (aS _ _)
 case qc3=>exact t
 case qc4=>unfold maxLen;omega
 case qc5=>omega
 case qc6=>simp
 intro s w1 m i A;have u:Hid (am w w1/\w1.ownsRow w.heap.size 54 7 s len xs):=by
  have y:am w w1:=Below.grown (aS _ _) i (by simp) (by intro k z;simp[Value.ownBlock]at z;omega);have B:w1.ownsRow w.heap.size 54 7 s len xs:=by simpa using m
  exact⟨y,B⟩
 clear m i A;go_wp2_with fail
 go_ret
 exact⟨_,rfl,u⟩
theorem Bo(c:Nat)(w:ag):ao 55 #[ae none 0 c] w λe w'=>e=.returned (ae none 0 0)/\w'=w:=by
 have g:∀(w:ag)(a:ar)(n c d b:Nat),(binOp .eql 38 (ae a n c) (ae none d b)).run Tryz.prog w=.ok (.bool a.isNone) w:=λw a n c d b=>Lib.run_eql_slice_nil w _ _ a n c d b underlying38;have f:(none:ar).isNone=true:=rfl;go_enter func55,ntmps55;go_wp2_with fail
 go_ret
 exact⟨rfl,rfl⟩
theorem Kt(h:Nat)(q:ar)(L d:Nat)(v x:Nat->Int)(y:Nat->aq)(xa:Nat->ar)(z xc:Nat->Nat)(w:ag)(k:ar->Nat->Nat->bt)(E:h<w.heap.size)(N:L<=1000000)(O:L<=d)(F:q=none/\L=0/\d=0\/∃g,q=some ⟨g,0,none⟩)(r:Hid (ai w h 6 (ae q L d)))(s:Hid (∀W,am w W->ao 55 #[ae q L d] W λe w'=>∃a c,e=.returned (ae a L c)/\Hid (am W w'/\k a c 0 w')))(t:Hid (∀a c j W,j<L->k a c j W->∃g,a=some ⟨g,0,none⟩/\ai W g (j*7+3) (ab (v j))/\ai W g (j*7+3+1) (ab (x j))/\ai W g (j*7+3+2) (af (y j))/\ai W g (j*7+3+3) (ae (xa j) (z j) (xc j))/\ Hid (ao 56 #[.agg #[ab (v j),ab (x j),af (y j),ae (xa j) (z j) (xc j)]] W λe w'=>∃y0 y1 y2 ya yl yc,e=.returned (.agg #[ab y0,ab y1,af y2,ae ya yl yc])/\Hid ((w'.frozen? ⟨g,j*7+3,none⟩=false/\w'.frozen? ⟨g,j*7+3+1,none⟩=false/\w'.frozen? ⟨g,j*7+3+2,none⟩=false/\w'.frozen? ⟨g,j*7+3+3,none⟩=false)/\(ai w' g (j*7+3) (ab (v j))/\ai w' g (j*7+3+1) (ab (x j))/\ai w' g (j*7+3+2) (af (y j))/\ai w' g (j*7+3+3) (ae (xa j) (z j) (xc j)))/\k a c (j+1) (df w' g (j*7+3) (ab y0) (ab y1) (af y2) (ae ya yl yc)))))):ao 29 #[aH h,ab 0] w λe w'=>∃a c,e=.returned (ae a L c)/\Hid (k a c L w'):=by
 have b:Hid (am w w.drew):=(aA _ _).drew;have i:Hid (∀W,am w W->ai W h 6 (ae q L d)):=λW C=>(C.cell (p:=⟨h,6,none⟩) E).trans r;have M:=r.out;have S:¬((L:Int)<0):=by omega
 have T:(0:Int)<=(L:Int):=by omega
 have U:(L:Int)<=(d:Int):=by omega
 have V:¬((d:Int)<(L:Int)):=by omega
 have X:¬(d<L):=by omega
 have Y:min (0:Int) (L:Int)=0:=by omega
 go_enter func29,ntmps29;go_upto_region 1 with fail;rcases F with⟨rfl,rfl,rfl⟩|⟨B,rfl⟩
 ·go_region_held3 (λW=>W.cell? ⟨h,6,none⟩=some (ae none 0 0)) (first|exact i _ b|exact i _ m) ((first
    | (go_at_call 55;refine(s _ b).mono ?_;rintro e G ⟨a,c,rfl,f⟩;have m:=ap (b.trans (f.1.mono b.size)))))
  have l:=ap f.2;clear s r i b m t f;go_wp2_with fail;go_loopw [6,23] (λ_ o wr=>o=ab 0/\Hid (k a c 0 wr)) (λ_ _ _=>0)
  case atStart=>exact⟨rfl,l⟩
  case round=>
  obtain⟨rfl,n⟩:=hrel;clear l;go_wp2_with fail
  go_ret
  exact⟨a,c,rfl,n⟩
 ·go_region_held3 (λW=>W.cell? ⟨h,6,none⟩=some (ae (some ⟨B,0,none⟩) L d)) (first|exact i _ b|exact i _ m) ((first
    | (go_at_call 55;refine(s _ b).mono ?_;rintro e G ⟨a,c,rfl,f⟩;have m:=ap (b.trans (f.1.mono b.size)))))
  clear s r i b m;have l:=ap f.2;clear f;go_wp2_with fail;go_loopw [6,23] (λ_ o wr=>∃(j:Nat),j<=L/\o=ab j/\Hid (k a c j wr)) (λ_ o _=>L-(intOf o).toNat)
  case atStart=>exact⟨0,aM _,rfl,l⟩
  case round=>
  obtain⟨j,P,rfl,n⟩:=hrel;by_cases D:j<L
  ·obtain⟨g,rfl,H,I,J,K,A⟩:=t.out a c j wr D n;have Q:(0:Int)<=(j:Int):=by omega
   have R:(j:Int)<(L:Int):=by omega
   clear t n;go_wp2_with fail;refine A.mono ?_;rintro e Z ⟨y0,y1,y2,ya,yl,yc,rfl,u⟩;obtain⟨⟨f0,f1,f2,f3⟩,d0,d1,d2,d3⟩:=(⟨u.1,u.2.1⟩:_/\_);go_wp2_with fail;go_roundw
   case rel=>exact⟨j+1,by omega,by go_num,u.2.2⟩
   case measure=>simp[intOf];omega
  ·obtain rfl:j=L:=by omega
   clear t l;go_wp2_with fail
   go_ret
   exact⟨a,c,rfl,n⟩
theorem DF(G:ar)(I H:Nat)(room:Int)(sa:ar)(sl sc:Nat)(nm t:Nat->aq)(r s:Nat->Int)(xa:Nat->ar)(u xc:Nat->Nat)(w:ag)(x:au->Int->bt)(m:Nat->Nat->bt)(R:au->bt)(U:sl<=9223372036854775807)(E:Hid (ao 18 #[ae G I H,ab room] w λe w'=>∃v b,e=.returned (.tuple #[v,ab b])/\Hid (x v b w')))(i:Hid (∀v b W,x v b W->(b≠0\/4<sl)->R (.pointer none) W))(p:Hid (∀v W,x v 0 W->sl<=4->∃a,v=aH a/\m a 0 W))(l:Hid (∀a j W,j<sl->m a j W->∃g o,(sa=some ⟨g,o,none⟩/\ai W g (o+j*5) (af (nm j))/\ai W g (o+j*5+1) (ab (r j))/\ai W g (o+j*5+2) (ab (s j))/\ai W g (o+j*5+3) (af (t j))/\ai W g (o+j*5+4) (ae (xa j) (u j) (xc j)))/\Hid (∀F,am W F->ao 20 #[aH a,af (nm j),.agg #[ab (r j),ab (s j),af (t j),ae (xa j) (u j) (xc j)]] F λe w'=>∃v b,e=.returned (.tuple #[ab v,ab b])/\Hid (m a (j+1) w'))))(h:Hid (∀a W,m a sl W->R (aH a) W)):ao 6 #[ae G I H,ab room,ae sa sl sc] w λe w'=>∃v,e=.returned v/\Hid (R v w'):=by
 go_enter func6,ntmps6;go_wp2_with fail;refine E.mono ?_;rintro e Z ⟨v,b,rfl,d⟩;clear E;by_cases z:b=0;rotate_left
 ·have k:=ap (i _ _ _ d (aj z));have V:(b==0)=false:=by simpa using z
  clear i p l h d;go_wp2_with fail
  go_ret
  exact⟨_,rfl,k⟩
 subst z;by_cases Q:sl<=4;rotate_left
 ·have k:=ap (i _ _ _ d (ak (by omega)));have S:(4:Int)<(sl:Int):=by omega
  clear i p l h d;go_wp2_with fail
  go_ret
  exact⟨_,rfl,k⟩
 obtain⟨a,rfl,y⟩:=p.out _ _ d Q;have C:=ap y;have S:¬(4:Int)<(sl:Int):=by omega
 clear i p d y;go_wp2_with fail;go_loopw [10,26] (λ_ B wr=>∃(j:Nat),j<=sl/\B=ab j/\Hid (m a j wr)) (λ_ B _=>sl-(intOf B).toNat)
 case atStart=>exact⟨0,aM _,rfl,C⟩
 case round=>
 clear C;obtain⟨j,y,rfl,q⟩:=hrel;by_cases T:j<sl
 ·obtain⟨g,o,⟨rfl,L,M,N,O,P⟩,D⟩:=l.out a j _ T q;have X:(0:Int)<=(j:Int):=by omega
  have Y:(j:Int)<(sl:Int):=by omega
  clear l h q;go_upto_region 7 with fail;generalize A:World.alloc _ _=c;have f:c.heap[wr.heap.size]?=some (.cells #[af (nm j),ab (r j),ab (s j),af (t j),ae (xa j) (u j) (xc j)] 64):=by
   rw[<-A];exact aD _ _
  have K:=ap (D c (by rw[<-A];exact aS _ _));generalize wr.heap.size=n at*;have d0:ai c n 0 (af (nm j)):=ah f 0;have d1:ai c n 1 (ab (r j)):=ah f 1;have d2:ai c n 2 (ab (s j)):=ah f 2;have d3:ai c n 3 (af (t j)):=ah f 3;have d4:ai c n 4 (ae (xa j) (u j) (xc j)):=ah f 4;clear A f D L M N O P;go_wp2_with fail;refine K.mono ?_;rintro e aa ⟨v,b,rfl,J⟩;go_wp2_with fail;go_roundw
  case rel=>exact⟨j+1,by omega,by go_num,J⟩
  case measure=>simp[intOf];omega
 ·obtain rfl:j=sl:=by omega
  have k:=ap (h _ _ q);clear l h q;go_wp2_with fail
  go_ret
  exact⟨_,rfl,k⟩
theorem sZ{n d:Nat}{p:List (Tm n)}{q:List (Tm d)}(c:aG (λa b=>aB n a d b) p q=true)(s:aq)(k:Nat):uF n p s k=uF d q s k:=by
 unfold uF;rw[cW _ _ _ c];cases p with
 | nil=>
  cases q with
  | nil=>rfl
  | cons b q=>simp[aG]at c
 | cons a p=>
  cases q with
  | nil=>simp[aG]at c
  | cons b q=>
   simp only[aG,aK]at c;have e:(gK n a).1=(gK d b).1:=by
    cases n with
    | zero=>exact absurd c.1 (by simp[aB])
    | succ n=>
     cases d with
     | zero=>exact absurd c.1 (by simp[aB])
     | succ d=>exact(bQ c.1).1
   simp only[dh,(lM _ _ _ _ c.1).1,e]
theorem rE{n e:Nat}{p:List (Tm n)}{q:List (Tm e)}(f:aG (λa b=>aB n a e b) p q=true)(i:Nat):(p[i]?=none/\q[i]?=none)\/∃a b,p[i]?=some a/\q[i]?=some b/\aB n a e b=true/\a∈p/\b∈q:=by
 have h:=cW _ _ _ f;by_cases g:i<p.length
 ·have c:=aN g;have d:=aN (show i<q.length by omega);exact ak ⟨_,_,c,d,jV _ _ _ f _ _ _ c d,aL c,aL d⟩
 ·exact aj ⟨eY (by omega),eY (by omega)⟩
theorem A4{n i N M:Nat}(f:Tm n->Option (Tm N))(g:Tm i->Option (Tm M)):(p:List (Tm n))->(q:List (Tm i))->aG (λa b=>aB n a i b) p q=true->(∀a∈p,∀b∈q,aB n a i b=true->fW N M (f a) (g b))->fW (N+1) (M+1) ((cZ f p).map (dx N)) ((cZ g q).map (dx M))/\((cZ f p=none/\cZ g q=none)\/∃l r,cZ f p=some l/\cZ g q=some r/\aG (λa b=>aB N a M b) l r=true)
 | [],[],_,_=>⟨by simp[cZ,fW,aB,dx,aG],ak ⟨[],[],rfl,rfl,rfl⟩⟩
 | [],_::_,h,_=>by simp[aG]at h
 | _::_,[],h,_=>by simp[aG]at h
 | a::p,b::q,d,h=>by
  simp only[aG,aK]at d;have c:=h a (by simp) b (by simp) d.1;have s:=(A4 f g p q d.2 λx t y u=>h x (by simp[t]) y (by simp[u])).2;simp only[cZ];cases e1:f a with
  | none=>
   rw[e1]at c;cases e:g b with
   | none=>simp[fW]
   | some _=>rw[e]at c;exact c.elim
  | some o=>
   rw[e1]at c;cases e:g b with
   | none=>rw[e]at c;exact c.elim
   | some v=>
    rw[e]at c;have d:aB N o M v=true:=c;rcases s with⟨j,k⟩|⟨l,r,j,k,m⟩
    ·rw[j,k];simp[fW]
    ·rw[j,k];exact⟨by simp[fW,aB,dx,aG,d,m],ak ⟨o::l,v::r,rfl,rfl,by simp[aG,d,m]⟩⟩
theorem AR(m:Nat)(b:List (Tm m))(i:Nat)(k:List (Tm i))(self:Int)(u:aG (λx y=>aB m x i y) b k=true)(z:∀y∈b,aJ ⟨m,y⟩)(A:∀y∈k,aJ ⟨i,y⟩):(n:Nat)->(x:Tm n)->(d:Nat)->(x':Tm d)->aJ ⟨n,x⟩->aJ ⟨d,x'⟩->aB n x d x'=true->fW (m+n) (i+d) (vl m b self n x) (vl i k self d x')
 | 0,_,_,_,_,_,h=>by simp[aB]at h
 | _+1,_,0,_,_,_,h=>by simp[aB]at h
 | n+1,x,d+1,x',hx,hx',h=>by
  obtain⟨H,j⟩:=bQ h;unfold vl;rw[<-H];by_cases s:x.1.1=5
  ·rw[if_pos s,if_pos s];rcases rE u x.1.2.1.toNat with⟨e,f⟩|⟨y,F,e,f,C,p,q⟩
   ·rw[e,f];trivial
   ·rw[e,f];simp only[dU];rw[<-(lM _ _ _ _ C).1];by_cases g:cg ⟨m,y⟩=6
    ·rw[if_pos g,if_pos g];trivial
    ·rw[if_neg g,if_neg g];exact jp (by omega) (by omega) (z y p) (A _ q) C
  ·rw[if_neg s,if_neg s];by_cases g:x.1.1=6
   ·rw[if_pos g,if_pos g];trivial
   ·rw[if_neg g,if_neg g];by_cases r:x.1.1=4
    ·rw[if_pos r,if_pos r,<-sZ j,<-sZ j,<-sZ j];by_cases B:uF n x.2.2 qu 0=true
     ·rw[if_pos B,if_pos B];simp[fW,aB,b8,aG]
     ·rw[if_neg B,if_neg B];by_cases t:uF n x.2.2 xg 2=true
      ·rw[if_pos t,if_pos t];rcases rE j 1 with⟨e,f⟩|⟨a,o,e,f,l,p,q⟩
       ·rw[e,f];trivial
       ·rcases rE j 2 with⟨D,E⟩|⟨c,G,D,E,K,M,N⟩
        ·rw[e,f,D,E];trivial
        ·rw[e,f,D,E];simp only[dU];exact oc (AR m b i k self u z A n a d o (bj n x a hx p) (bj d x' o hx' q) l) λO v I=>oc (AR m b i k self u z A n c d G (bj n x c hx M) (bj d x' G hx' N) K) λP Q J=>yS I J
      ·rw[if_neg t,if_neg t];by_cases w:uF n x.2.2 Dj 1=true
       ·rw[if_pos w,if_pos w];rcases rE j 1 with⟨e,f⟩|⟨a,o,e,f,l,p,q⟩
        ·rw[e,f];trivial
        ·rw[e,f];simp only[dU,cR _ _ _ _ l];cases aT d o
         ·simp[fW]
         ·exact jp (by omega) (by omega) (bj n x a hx p) (bj d x' o hx' q) l
       ·rw[if_neg w,if_neg w];exact(A4 _ _ x.2.2 x'.2.2 j λy C F L l=>AR m b i k self u z A n y d F (bj n x y hx C) (bj d x' F hx' L) l).1
    ·rw[if_neg r,if_neg r];exact jp (by omega) (by omega) hx hx' h
theorem Gs{B:List Tc}(c:∀y∈B,aJ ⟨13,y⟩)(self:Int){n a:Nat}{x:Tm n}{x':Tm a}(g:aJ ⟨n,x⟩)(h:aJ ⟨a,x'⟩)(e:aB n x a x'=true):tw B self n x=tw B self a x':=by
 have f:aG (λx y=>aB 13 x 13 y) B B=true:=ju _ _ λy i=>fT 13 y (c y i);have k:=AR 13 B 13 B self f c c n x a x' g h e;unfold tw;cases e1:vl 13 B self n x with
 | none=>
  rw[e1]at k;cases b:vl 13 B self a x' with
  | none=>rfl
  | some _=>rw[b]at k;exact k.elim
 | some j=>
  rw[e1]at k;cases b:vl 13 B self a x' with
  | none=>rw[b]at k;exact k.elim
  | some l=>
   rw[b]at k;have d:aB (13+n) j (13+a) l=true:=k;simp only[dU];rw[cd d,iK d]
def Qw(k:Nat)(d:Dg):Prop:=(∀y∈d.b,aJ ⟨13,y⟩)/\1<=d.next/\d.next+k<=100
theorem tX{n:Nat}(a:Ac (n+1)):(a.1=1/\(cH n a).2.2=[bw nt n,a.2.1.1,a.2.1.2])\/(a.1=2/\(cH n a).2.2=[bw jy n,bw a.2.2.1 n,a.2.1.2,b8 5 a.2.2.2 n])\/(a.1=3/\(cH n a).2.2=[bw ns n,a.2.1.1])\/((a.1≠1/\a.1≠2/\a.1≠3)/\(cH n a).2.2=[bw mC n]):=by
 unfold cH;by_cases b:a.1=1
 ·exact aj ⟨b,by rw[if_pos b];rfl⟩
 ·by_cases c:a.1=2
  ·exact ak (aj ⟨c,by rw[if_neg b,if_pos c];rfl⟩)
  ·by_cases d:a.1=3
   ·exact ak (ak (aj ⟨d,by rw[if_neg b,if_neg c,if_pos d];rfl⟩))
   ·exact ak (ak (ak ⟨⟨b,c,d⟩,by rw[if_neg b,if_neg c,if_neg d];rfl⟩))
theorem IH{a:Int}(d:1<=a/\a<=99):aJ ⟨13,EF a⟩:=by
 intro c b;have b:c∈[(((3,a,.empty),(none,0,0)):Nd)]:=b;obtain rfl:=dC.1 b;simp[cQ,rk,d]
theorem Kl{n m:Nat}{a:Ac (n+1)}{b:Ac (m+1)}(c:aB (n+2) (cH n a) (m+2) (cH m b)=true)(v:aJ ⟨n+2,cH n a⟩)(w:aJ ⟨m+2,cH m b⟩)(self:Int){k:Nat}{d:Dg}(y:Qw (k+1) d):rO self a d=rO self b d/\∀h,rO self a d=some h->Qw k h:=by
 obtain⟨_,e⟩:=bQ c;have E:=λl j=>bj (n+1) (cH n a) l v j;have F:=λl j=>bj (m+1) (cH m b) l w j;have u:=cW _ _ _ e;obtain⟨d1,d2,d3⟩:=y;have i:∀{x:Tm (n+1)}{x':Tm (m+1)},x∈(cH n a).2.2->x'∈(cH m b).2.2->aB (n+1) x (m+1) x'=true->tw d.b self (n+1) x=tw d.b self (m+1) x':=λz A B=>Gs d1 self (E _ z) (F _ A) B;rcases tX a with⟨f,o⟩|⟨f,o⟩|⟨f,o⟩|⟨f,o⟩<;>rcases tX b with⟨g,p⟩|⟨g,p⟩|⟨g,p⟩|⟨g,p⟩<;>rw[o,p]at u e i
 case inl.inl=>
  simp only[aG,aK,and_true]at e;have q:=i (x:=a.2.1.1) (x':=b.2.1.1) (by simp) (by simp) e.2.1;have r:=i (x:=a.2.1.2) (x':=b.2.1.2) (by simp) (by simp) e.2.2;unfold rO;rw[if_pos f,if_pos g,r];unfold nX;rw[q];refine⟨rfl,λh c=>?_⟩;obtain⟨G,_,c⟩:=bI.1 c;obtain⟨t,_,rfl⟩:=cG.1 c;exact⟨d1,d2,by simp only;omega⟩
 case inr.inl.inr.inl=>
  simp only[aG,aK,and_true]at e;have r:=i (x:=a.2.1.2) (x':=b.2.1.2) (by simp) (by simp) e.2.2.1;have C:a.2.2.1=b.2.2.1:=by
   have:=(bQ e.2.1).1;simpa [bw]using this
  have D:a.2.2.2=b.2.2.2:=by
   have:=(bQ e.2.2.2).1;simpa [b8]using this
  unfold rO;rw[if_neg (show¬a.1=1 by omega),if_neg (show¬b.1=1 by omega),if_pos f,if_pos g,r,C,D];refine⟨rfl,λh c=>?_⟩;obtain⟨t,_,c⟩:=bI.1 c;split at c
  ·obtain rfl:=az c;refine⟨λl j=>?_,by simp only;omega,by simp only;omega⟩;rcases tC j with s|s
   ·exact d1 l s
   ·rw[s];exact IH (by omega)
  ·cases c
 case inr.inr.inl.inr.inr.inl=>
  simp only[aG,aK,and_true]at e;have q:=i (x:=a.2.1.1) (x':=b.2.1.1) (by simp) (by simp) e.2;unfold rO;rw[if_neg (show¬a.1=1 by omega),if_neg (show¬b.1=1 by omega),if_neg (show¬a.1=2 by omega),if_neg (show¬b.1=2 by omega),if_pos f,if_pos g];unfold nX;rw[q];refine⟨rfl,λh c=>?_⟩;obtain⟨G,_,rfl⟩:=cG.1 c;exact⟨d1,d2,by simp only;omega⟩
 case inr.inr.inr.inr.inr.inr=>
  unfold rO;rw[if_neg f.1,if_neg g.1,if_neg f.2.1,if_neg g.2.1,if_neg f.2.2,if_neg g.2.2];refine⟨rfl,λh c=>?_⟩;obtain rfl:=az c;exact⟨d1,d2,by simp only;omega⟩
 all_goals exact absurd u (by simp)
theorem BA{n m:Nat}(self:Int):(l:List (Ac (n+1)))->(r:List (Ac (m+1)))->aG (λx y=>aB (n+2) x (m+2) y) (l.map (cH n)) (r.map (cH m))=true->(∀a∈l,aJ ⟨n+2,cH n a⟩)->(∀b∈r,aJ ⟨m+2,cH m b⟩)->∀{d:Dg},Qw l.length d->qE self l d=qE self r d/\∀f,qE self l d=some f->∀y∈f.b,aJ ⟨13,y⟩
 | [],[],_,_,_,d,hd=>⟨rfl,λf c=>by obtain rfl:=az c;exact hd.1⟩
 | [],_::_,c,_,_,_,_=>by simp[aG]at c
 | _::_,[],c,_,_,_,_=>by simp[aG]at c
 | a::l,b::r,c,ha,hb,d,hd=>by
  simp only[aV,aG,aK]at c;obtain⟨h,i⟩:=Kl c.1 (ha a (by simp)) (hb b (by simp)) self hd;unfold qE;rw[<-h];cases e:rO self a d with
  | none=>exact⟨rfl,λ_ c=>by cases c⟩
  | some f=>exact BA self l r c.2 (λx g=>ha x (by simp[g])) (λx g=>hb x (by simp[g])) (i f e)
def PJ{n m:Nat}(c:Cl (n+1))(a:Cl (m+1)):Prop:=(aB (n+1) c.1.1 (m+1) a.1.1=true/\aB (n+1) c.1.2.1 (m+1) a.1.2.1=true/\aB (n+1) c.1.2.2 (m+1) a.1.2.2=true)/\aG (λx y=>aB (n+2) x (m+2) y) (c.2.2.map (cH n)) (a.2.2.map (cH m))=true
theorem oX{n m:Nat}{x:Tm (n+1)}{y:Tm (m+1)}(b:bJ (n+1) x=0)(c:bJ (m+1) y=0)(a:aB (n+3) (bf (n+3) (n+1) x) (m+3) (bf (m+3) (m+1) y)=true):aB (n+1) x (m+1) y=true:=
 bS _ _ _ _ _ _ (dX _ _ _ _ (fS (n+3) (n+1) (by omega) x (aU.2 (bM.1 b).1))) (bS _ _ _ _ _ _ a (fS (m+3) (m+1) (by omega) y (aU.2 (bM.1 c).1)))
theorem MU{n m:Nat}{c:Cl (n+1)}{a:Cl (m+1)}(f:aB (n+4) (dZ n c) (m+4) (dZ m a)=true)(b:qx c)(d:qx a):PJ c a:=by
 obtain⟨_,e⟩:=bQ f;simp only[dZ,dx,aG,aK,and_true]at e;obtain⟨_,g,h,i,j⟩:=e;exact⟨⟨oX b.1 d.1 g,oX b.2.1 d.2.1 h,oX b.2.2.1 d.2.2.1 j⟩,(bQ i).2⟩
theorem MK:nO.length=4/\∀y∈nO,DA y:=by
 refine⟨rfl,λy a=>?_⟩;simp only[nO,oC,cu]at a;obtain⟨x,b,rfl⟩:=a;rw[List.eq_of_mem_replicate b];exact⟨by kernel_rfl,aj rfl⟩
theorem G9{n m:Nat}{c:Cl (n+1)}{e:Cl (m+1)}(f:PJ c e){s t:Tc}(j:bJ 13 s=0/\aT 13 s=true)(k:bJ 13 t=0/\aT 13 t=true):lY c s t=lY e s t/\∀b,lY c s t=some b->∀y∈b,aJ ⟨13,y⟩:=by
 have r:aB 13 s 13 s=true:=fT _ _ (aU.2 (bM.1 j.1).1);have u:aB 13 t 13 t=true:=fT _ _ (aU.2 (bM.1 k.1).1);have a:=mV _ c.1.1 13 s _ e.1.1 13 s nO nO f.1.1 r ve;unfold lY;cases e1:iG (n+1) c.1.1 13 s nO with
 | none=>
  rw[e1]at a;cases g:iG (m+1) e.1.1 13 s nO with
  | none=>exact⟨rfl,λ_ f=>by cases f⟩
  | some _=>rw[g]at a;exact a.elim
 | some b=>
  rw[e1]at a;cases g:iG (m+1) e.1.1 13 s nO with
  | none=>rw[g]at a;exact a.elim
  | some i=>
   rw[g]at a;have q:=lK DA oQ _ c.1.1 13 s ⟨j.1,ak j.2⟩ _ _ MK e1;have d:=mV _ c.1.2.1 13 t _ e.1.2.1 13 t b i f.1.2.1 u a;simp only[dU];cases e3:iG (n+1) c.1.2.1 13 t b with
   | none=>
    rw[e3]at d;cases h:iG (m+1) e.1.2.1 13 t i with
    | none=>exact⟨rfl,λ_ f=>by cases f⟩
    | some _=>rw[h]at d;exact d.elim
   | some x=>
    rw[e3]at d;cases h:iG (m+1) e.1.2.1 13 t i with
    | none=>rw[h]at d;exact d.elim
    | some z=>
     rw[h]at d;refine⟨by simp only[nG];rw[J9 d],λw l y o=>?_⟩;obtain rfl:=az l;obtain⟨v,p,rfl⟩:=cu.1 o;exact aU.2 (bM.1 (nP ((lK DA oQ _ c.1.2.1 13 t ⟨k.1,ak k.2⟩ _ _ q e3).2 v p).1)).1
theorem sQ{n m:Nat}(name:aq):(l:List (Bh (n+1)))->(r:List (Bh (m+1)))->aG (λx y=>aB (n+5) x (m+5) y) (l.map (eu n)) (r.map (eu m))=true->(gI (n+1) name l=none/\gI (m+1) name r=none)\/∃b a,gI (n+1) name l=some b/\gI (m+1) name r=some a/\aG (λx y=>aB (n+4) x (m+4) y) (b.2.2.map (dZ n)) (a.2.2.map (dZ m))=true/\b∈l/\a∈r
 | [],[],_=>aj ⟨rfl,rfl⟩
 | [],_::_,h=>by simp[aG]at h
 | _::_,[],h=>by simp[aG]at h
 | b::l,a::r,h=>by
  simp only[aV,aG,aK]at h;obtain⟨_,f⟩:=bQ h.1;simp only[eu,dx,aG,aK]at f;have e:b.1=a.1:=by
   have:=(bQ f.2.1).1;simpa [bw]using this
  unfold gI;rw[e];by_cases d:a.1=name
  ·rw[if_pos d,if_pos d];exact ak ⟨b,a,rfl,rfl,f.2.2,by simp,by simp⟩
  ·rw[if_neg d,if_neg d];rcases sQ name l r h.2 with k|⟨c,g,i,j,o,p,q⟩
   ·exact aj k
   ·exact ak ⟨c,g,i,j,o,by simp[p],by simp[q]⟩
theorem xS{n m:Nat}{s t:Tc}(o:bJ 13 s=0/\aT 13 s=true)(p:bJ 13 t=0/\aT 13 t=true):(l:List (Cl (n+1)))->(r:List (Cl (m+1)))->aG (λx y=>aB (n+4) x (m+4) y) (l.map (dZ n)) (r.map (dZ m))=true->(∀c∈l,qx c)->(∀c∈r,qx c)->(mT s t l=none/\mT s t r=none)\/∃c a b,mT s t l=some (c,b)/\mT s t r=some (a,b)/\PJ c a/\(c∈l/\a∈r)/\∀y∈b,aJ ⟨13,y⟩
 | [],[],_,_,_=>aj ⟨rfl,rfl⟩
 | [],_::_,h,_,_=>by simp[aG]at h
 | _::_,[],h,_,_=>by simp[aG]at h
 | c::l,a::r,h,hl,hr=>by
  simp only[aV,aG,aK]at h;have j:=MU h.1 (hl c (by simp)) (hr a (by simp));obtain⟨g,i⟩:=G9 j o p;unfold mT;rw[<-g];cases e:lY c s t with
  | some b=>exact ak ⟨c,a,b,rfl,rfl,j,⟨by simp,by simp⟩,i b e⟩
  | none=>
   rcases xS o p l r h.2 (λx f=>hl x (by simp[f])) (λx f=>hr x (by simp[f]))with k|⟨d,u,b,g,i,v,q,w⟩
   ·exact aj k
   ·exact ak ⟨d,u,b,g,i,v,⟨by simp[q.1],by simp[q.2]⟩,w⟩
theorem vo{n m:Nat}{s:Tc}(k:bJ 13 s=0/\aT 13 s=true){l:List (Cl (n+1))}{r:List (Cl (m+1))}(f:aG (λx y=>aB (n+4) x (m+4) y) (l.map (dZ n)) (r.map (dZ m))=true)(g:∀c∈l,qx c)(h:∀c∈r,qx c):(ms:List Tc)->(∀t∈ms,bJ 13 t=0/\aT 13 t=true)->(i:Nat)->(sS l s ms i=none/\sS r s ms i=none)\/∃j c a b,sS l s ms i=some (j,c,b)/\sS r s ms i=some (j,a,b)/\PJ c a/\(c∈l/\a∈r)/\∀y∈b,aJ ⟨13,y⟩
 | [],_,_=>aj ⟨rfl,rfl⟩
 | t::ms,ht,i=>by
  unfold sS;rcases xS k (ht t (by simp)) l r f g h with⟨d,e⟩|⟨c,a,b,d,e,p⟩
  ·rw[d,e];exact vo k f g h ms (λx o=>ht x (by simp[o])) (i+1)
  ·rw[d,e];exact ak ⟨i,c,a,b,rfl,rfl,p⟩
theorem GC{n:Nat}{c:Cl (n+1)}(d:bJ (n+3) (dx (n+2) (c.2.2.map (cH n)))=0):∀a∈c.2.2,aJ ⟨n+2,cH n a⟩:=λa b=>aU.2 (bM.1 (ge d (by simp only[dx];exact lp b))).1
theorem Hh{n m:Nat}{c:Cl (n+1)}{f:Cl (m+1)}(h:PJ c f)(g:qx c/\∀a∈c.2.2,aJ ⟨n+2,cH n a⟩)(i:qx f/\∀a∈f.2.2,aJ ⟨m+2,cH m a⟩)(room self next:Int)(k:1<=next/\next<=92)(s t:Tc)(ms:List Tc){b:List Tc}(j:∀y∈b,aJ ⟨13,y⟩):fI room self next s t ms c b=fI room self next s t ms f b:=by
 have p:=g.1.2.2.2.1;obtain⟨l,o⟩:=BA self c.2.2 f.2.2 h.2 g.2 i.2 (d:=⟨b,next,[],[],[],false⟩) ⟨j,k.1,by simp only;omega⟩;unfold fI;rw[<-l];cases e:qE self c.2.2 ⟨b,next,[],[],[],false⟩with
 | none=>rfl
 | some d=>
  have:=Gs (o d e) self (aU.2 (bM.1 g.1.2.2.1).1) (aU.2 (bM.1 i.1.2.2.1).1) h.1.2.2;simp only[this]
theorem yB{n:Nat}{p:List (Bh (n+1))}(d:mK n p=0):∀b∈p,∀c∈b.2.2,qx c/\∀a∈c.2.2,aJ ⟨n+2,cH n a⟩:=λb e c f=>by
 have g:=(fJ d).2.1;have h:bJ (n+5) (eu n b)=0:=ge g (by simp only[cm,dx];exact bW _ (lp e));have i:bJ (n+4) (dZ n c)=0:=ge h (by simp only[eu,dx];exact bW _ (bW _ (lp f)));exact⟨((Gg d).2 b e).2 c f,GC (vm i 3 rfl)⟩
theorem wW{n m:Nat}{P:List (Bh (n+1))}{Q:List (Bh (m+1))}(b:aB (n+6) (cm n P) (m+6) (cm m Q)=true):aG (λx y=>aB (n+5) x (m+5) y) (P.map (eu n)) (Q.map (eu m))=true:=by
 obtain⟨_,a⟩:=bQ b;simp only[cm,dx,aG,aK]at a;exact a.2
theorem vM{n m:Nat}{P:List (Bh (n+1))}{Q:List (Bh (m+1))}(d:aB (n+6) (cm n P) (m+6) (cm m Q)=true)(nm:aq):lQ n P nm=lQ m Q nm:=by
 unfold lQ;rcases sQ nm P Q (wW d)with⟨a,c⟩|⟨b,e,a,c,_⟩<;>rw[a,c]<;>rfl
theorem I4{n m:Nat}{P:List (Bh (n+1))}{Q:List (Bh (m+1))}(z:aB (n+6) (cm n P) (m+6) (cm m Q)=true)(A:mK n P=0)(B:mK m Q=0)(room:Int)(nm:aq)(self next:Int)(C:1<=next/\next<=92){s:Tc}(w:bJ 13 s=0/\aT 13 s=true){ms:List Tc}(v:∀t∈ms,bJ 13 t=0/\aT 13 t=true):od room P nm self next s ms=od room Q nm self next s ms:=by
 have p:=yB A;have q:=yB B;have key:(sS (gM nm P) s ms 0=none/\sS (gM nm Q) s ms 0=none)\/∃f c a b,sS (gM nm P) s ms 0=some (f,c,b)/\sS (gM nm Q) s ms 0=some (f,a,b)/\PJ c a/\((qx c/\∀i∈c.2.2,aJ ⟨n+2,cH n i⟩)/\qx a/\∀i∈a.2.2,aJ ⟨m+2,cH m i⟩)/\∀H∈b,aJ ⟨13,H⟩:=by
  unfold gM;rcases sQ nm P Q (wW z)with⟨d,e⟩|⟨b,u,d,e,o,g,h⟩
  ·rw[d,e];rcases vo w (l:=([]:List (Cl (n+1)))) (r:=([]:List (Cl (m+1)))) rfl (by simp) (by simp) ms v 0 with k|⟨_,_,_,_,_,_,_,k,_⟩
   ·exact aj k
   ·cases k.1
  ·rw[d,e];rcases vo w o (λc j=>(p b g c j).1) (λc j=>(q u h c j).1) ms v 0 with k|⟨f,c,a,x,D,E,F,y,G⟩
   ·exact aj k
   ·exact ak ⟨f,c,a,x,D,E,F,⟨p b g c y.1,q u h a y.2⟩,G⟩
 unfold od;rcases key with⟨d,e⟩|⟨f,c,a,b,d,e,o,g,h⟩
 ·rw[d,e];rfl
 ·rw[d,e];simp only[dU];congr 1;funext t;exact Hh o g.1 g.2 room self next C s t _ h
theorem FM{n m:Nat}{P:List (Bh (n+1))}{Q:List (Bh (m+1))}(d:aB (n+6) (cm n P) (m+6) (cm m Q)=true)(f:mK n P=0)(g:mK m Q=0){s:Sy}(q:∀a nm cs c,s.get a=some (nm,cs,c)->(bJ 13 cs=0/\aT 13 cs=true)/\∀t∈c,bJ 13 t=0/\aT 13 t=true)(v:0<=s.last/\s.last<=90)(room i a b:Int)(k:Nat)(x:Tm k):s.do n P room i a b k x=s.do m Q room i a b k x:=by
 have p:lQ n P=lQ m Q:=funext λnm=>vM d nm;have r:s.run n P room a=s.run m Q room a:=by
  unfold Sy.run;cases e:s.get a with
  | none=>rfl
  | some u=>
   obtain⟨nm,cs,c⟩:=u;obtain⟨j,l⟩:=q a nm cs c e;have h:=I4 d f g room nm a (s.last+1) ⟨by omega,by omega⟩ j l;have o:sy n room P nm a (s.last+1) cs c=sy m room Q nm a (s.last+1) cs c:=by
    unfold sy;rw[h,f,g]
   simp only[o,h,Sy.made,p];split
   ·cases od room Q nm a (s.last+1) cs c<;>rfl
   ·rfl
 unfold Sy.do;rw[r]
theorem wR{n m:Nat}{P:List (Bh (n+1))}{Q:List (Bh (m+1))}(a:aB (n+6) (cm n P) (m+6) (cm m Q)=true)(s:Sy)(room:Int)(nm:aq)(k:Nat)(x:Tm k):s.start n P room nm k x=s.start m Q room nm k x:=by
 unfold Sy.start;rw[vM a]
theorem KG{n:Nat}{P:List (Bh (n+1))}{k d:Nat}{x:Tm k}{y:Tm d}(c:aB k x d y=true)(s:Sy)(room a b:Int):s.do n P room 3 a b k x=s.do n P room 3 a b d y:=by
 unfold Sy.do Sy.inject;rw[cd c,cR _ _ _ _ c,iK c]
def rj:aq:=⟨#[99,111,117,110,116]⟩
def QX:aq:=⟨#[117,112]⟩
def QW:aq:=⟨#[97,115,107]⟩
def Qm:aq:=⟨#[104,97,118,101]⟩
def ua:aq:=⟨#[102,111,114,107]⟩
def Di:aq:=⟨#[98,97,100]⟩
def wA:aq:=⟨#[97]⟩
def PN:ar×Nat:=(none,0)
def Ke(N:Nat):Tm (N+1):=b8 6 0 N
def M0(a:Int)(N:Nat):Tm (N+1):=b8 1 a N
def Kh(a:Int)(N:Nat):Tm (N+1):=b8 5 a N
def gg:List (Bh 2):=[(rj,PN,[
 ((Kh 0 1,dx 1 [bw QX 0,Kh 1 0],dx 1 [bw xg 0,Kh 0 0,Kh 1 0]),PN,[]),
 ((Kh 0 1,dx 1 [bw QW 0,Kh 1 0],Kh 0 1),PN,[(1,(Kh 1 1,dx 1 [bw Qm 0,Kh 0 0]),.empty,0)]),
 ((Ke 1,bw ua 1,M0 1 1),PN,[(2,(zT 1,M0 0 1),rj,0),(3,(Kh 0 1,zT 1),.empty,0),(1,(Kh 0 1,dx 1 [bw QX 0,M0 7 0]),.empty,0)]),
 ((Ke 1,bw mC 1,M0 0 1),PN,[(4,(zT 1,zT 1),.empty,0)]),
 ((Ke 1,bw Di 1,dx 1 [bw xg 0,bw wA 0,bw wA 0]),PN,[])])]
def we:Tc:=dx 12 [bw QX 11,M0 3 11]
def GX:Sy:=(Mx.start 1 gg 60 rj 1 (M0 2 0)).1
theorem Kk:mK 1 gg=0:=by kernel_rfl
theorem GY:(Mx.start 1 gg 60 rj 1 (M0 2 0)).2=0/\GX.last=1:=⟨by kernel_rfl,by kernel_rfl⟩
def Mw:List (Int×Int×Int×Tc):=[(3,1,0,we),(1,1,0,sH),(3,1,0,bw ua 12),(1,1,0,sH),(2,1,2,sH),(1,2,0,sH)]
def P7:List (Int×Int×Int×Tc):=[(3,1,0,bw Di 12),(1,1,0,sH)]
def Kf(s:Sy)(e:Int×Int×Int×Tc):Sy×Int:=s.do 1 gg 60 e.1 e.2.1 e.2.2.1 13 e.2.2.2
def zN(s:Sy)(l:List (Int×Int×Int×Tc)):Sy:=l.foldl (λs e=>(Kf s e).1) s
def DN:Sy->List (Int×Int×Int×Tc)->Bool
 | _,[]=>true
 | s,e::l=>(Kf s e).2==0 && DN (Kf s e).1 l
theorem Ki:DN GX Mw=true:=by kernel_rfl
theorem M2:DN (zN GX Mw) P7=true:=by kernel_rfl
theorem O7:(zN GX Mw).ps.map (·.1)=[1,2]:=by kernel_rfl
theorem Kj:((zN GX Mw).get 2).map (λv=>(v.1,v.2.1.1))=some (rj,1,7,.empty):=by kernel_rfl
theorem M1:(zN (zN GX Mw) P7).ps=[]:=by kernel_rfl
def vv(c:UInt8):Bool:=decide (48<=(c.toNat:Int)) && decide ((c.toNat:Int)<=57)
def ji(l:List UInt8):Bool:=l.all vv
def l6(l:List UInt8):Int:=l.foldl (λn c=>10*n+((c.toNat:Int)-48)) 0
def fo(s:aq)(m:Int):Bool:=decide (1<=(s.size:Int)) && decide ((s.size:Int)<=m) && !(s.data.toList[0]?==some 48 && decide (1<(s.size:Int))) && ji s.data.toList
theorem vw(s:aq)(k:Nat)(a:k<s.size):ji (s.data.toList.take (k+1))=(ji (s.data.toList.take k) && vv s[k]):=by
 rw[tr s k a];simp[ji]
theorem Im(s:aq)(k:Nat)(a:k<s.size):l6 (s.data.toList.take (k+1))=10*l6 (s.data.toList.take k)+((s[k].toNat:Int)-48):=by
 rw[tr s k a];simp[l6]
theorem Ep(l:List UInt8):ji l=true->0<=l6 l/\l6 l<10 ^ l.length:=by
 suffices g:∀(l:List UInt8)(a:Int)(b:Nat),ji l=true->0<=a->a<10 ^ b->0<=l.foldl (λn c=>10*n+((c.toNat:Int)-48)) a/\l.foldl (λn c=>10*n+((c.toNat:Int)-48)) a<10 ^ (b+l.length) by
  intro d;have:=g l 0 0 d (by omega) (by simp);simpa [l6]using this
 intro l
 induction l with
 | nil=>intro a b _ e f;exact⟨e,f⟩
 | cons c l ih=>
  intro a b d e f;simp only[ji,jE,aK,vv,cw]at d;have:=ih (10*a+((c.toNat:Int)-48)) (b+1) (by simp only[ji];exact d.2) (by omega) (by rw[Int.pow_succ];omega);simp only[gU,bA];rw[show b+(l.length+1)=b+1+l.length by omega];exact this
theorem Er(s:aq)(k:Nat)(d:k<=14)(c:ji (s.data.toList.take k)=true):0<=l6 (s.data.toList.take k)/\l6 (s.data.toList.take k)<100000000000000:=by
 have a:=Ep _ c;refine⟨a.1,Int.lt_of_lt_of_le a.2 ?_⟩;have:(10:Int) ^ (s.data.toList.take k).length<=10 ^ 14:=by
  have b:(10:Nat) ^ (s.data.toList.take k).length<=10 ^ 14:=Nat.pow_le_pow_right (by omega) (by simp;omega)
  exact_mod_cast b
 simpa using this
theorem xU(s:aq)(k:Nat)(a:k<s.size)(c:vv s[k]=false):ji s.data.toList=false:=by
 have b:ji s.data.toList=(ji (s.data.toList.take (k+1)) && ji (s.data.toList.drop (k+1))):=by
  conv=>lhs;rw[<-iA (k+1) s.data.toList]
  simp only[ji,lf]
 rw[b,vw s k a,c];simp
theorem rQ(s:aq)(a:0<s.size):s.data.toList[0]?=some s[0]:=by
 rw[aN (by simpa using a)];rfl
theorem Pj(s:aq)(e:0<s.size)(f:s[0]=48):(s.toList==[48])=decide (¬1<s.size):=by
 rw[cI];have b:=rQ s e;rw[f]at b;have a:s.data.toList.length=s.size:=by simp
 cases d:s.data.toList with
 | nil=>rw[d]at a;simp at a;omega
 | cons c l=>
  rw[d]at b a;simp at b;subst b;cases l with
  | nil=>simp at a;simp;omega
  | cons g l=>simp at a;simp;omega
theorem CR{s:aq}(b:0<s.size):s.toList.isEmpty=false:=by
 rw[cI,List.isEmpty_eq_false_iff];intro a;have:s.data.toList.length=s.size:=by simp
 rw[a]at this;simp at this;omega
theorem CQ{s:aq}(a:¬0<s.size):s.toList.isEmpty=true:=by
 rw[cI,List.isEmpty_iff];apply bL;have:s.data.toList.length=s.size:=by simp
 omega
theorem kD{c:UInt8}{k:Nat}{d:UInt8}(b:d.toNat=k)(a:¬c=d):¬((c.toNat:Int)=k):=λe=>a (UInt8.toNat.inj (by omega))
def OS(s:aq)(m:Int)(e:Ending):Prop:=
 ∃(a:Int)(b:Bool),e=.returned (.tuple #[ab a,.bool b])/\Hid (b=fo s m/\0<=a/\a<100000000000000/\(b=true->a=l6 s.data.toList))
theorem oO(s:aq)(m:Int)(w:ag)(E:s.size<=9223372036854775807)(D:m<=13):ao 146 #[af s,ab m] w λe w'=>OS s m e/\w'=w:=by
 go_enter func146,ntmps146;by_cases g:0<s.size
 ·have n:=CR g;have A:(s.toList=[])=False:=by simpa using n
  by_cases l:(s.size:Int)<=m
  ·have z:decide (m<(s.size:Int))=false:=by simp;omega
   have i:s[0]=48->(s.toList==[48])=decide (¬1<s.size):=Pj s g;by_cases c:s[0]=48/\1<s.size
   ·obtain⟨c,a⟩:=c;have j:(s.toList==[48])=false:=by rw[i c];simp;omega
    have b:Hid (fo s m=false):=by simp[Hid,fo,rQ s g,c];omega
    clear i;go_wp2_with fail
    all_goals go_ret2
    all_goals exact⟨⟨0,false,rfl,b.symm,by omega,by omega,by simp⟩,rfl⟩
   ·have b:Hid (fo s m=ji s.data.toList):=by
      simp only[Hid,fo];rw[rQ s g];by_cases a:s[0]=48
      ·have:¬1<s.size:=λf=>c ⟨a,f⟩;simp[l];omega
      ·simp[l,a];omega
    have j:(s[0]=48/\(s.toList==[48])=true)\/¬((s[0].toNat:Int)=48):=by
     by_cases a:s[0]=48
     ·have B:¬1<s.size:=λf=>c ⟨a,f⟩;exact aj ⟨a,by rw[i a];simp;omega⟩
     ·exact ak (kD (k:=48) rfl a)
    clear i c;rcases j with⟨a,j⟩|j
    all_goals
     go_wp2_with fail
     go_loop [6,7] (λt p=>∃k:Nat,∃h:Int,k<=s.size/\p=ab k/\t=ab h/\Hid (h=l6 (s.data.toList.take k)/\ji (s.data.toList.take k)=true)) (λ_ p=>s.size-(intOf p).toNat)
     case atStart=>exact⟨0,0,aM _,rfl,rfl,by simp[Hid,ji,l6]⟩
     case round=>
      obtain⟨k,h,C,rfl,rfl,d⟩:=hrel;have r:=Er s k (by omega) d.2;rw[<-d.out.1]at r;obtain⟨F,G⟩:=r;by_cases o:k<s.size
      ·have x:=ap (vw s k o);have y:=ap (Im s k o);have q:Hid (vv s[k]=false->false=fo s m):=λf=>by rw[b.out,xU s k o f]
       by_cases d1:48<=(s[k].toNat:Int)
       ·by_cases d2:(s[k].toNat:Int)<=57
        ·go_wp2_with fail
         go_round
         case rel=>exact⟨k+1,10*h+((s[k].toNat:Int)-48),by omega,by go_num,by go_num,by rw[y.out,d.out.1],by rw[x.out,d.out.2];simp[vv,d1,d2]⟩
         case measure=>simp[intOf];omega
        ·go_wp2_with fail
         go_ret2
         exact⟨⟨0,false,rfl,q (by simp[vv,d2]),by omega,by omega,by simp⟩,rfl⟩
       ·go_wp2_with fail
        go_ret2
        exact⟨⟨0,false,rfl,q (by simp[vv];omega),by omega,by omega,by simp⟩,rfl⟩
      ·go_wp2_with fail
       go_ret2
       have u:s.data.toList.take k=s.data.toList:=bD (by simp;omega);refine⟨⟨h,true,rfl,?_,by omega,by omega,λ_=>?_⟩,rfl⟩
       ·rw[b.out,<-u,d.out.2]
       ·rw[d.out.1,u]
  ·have z:m<(s.size:Int):=by omega
   have b:Hid (fo s m=false):=by simp[Hid,fo,l]
   go_wp2_with fail
   all_goals go_ret2
   all_goals exact⟨⟨0,false,rfl,b.symm,by omega,by omega,by simp⟩,rfl⟩
 ·have n:=CQ g;have A:(s.toList=[])=True:=by simpa using n
  have v:s.size=0:=by omega
  have b:Hid (fo s m=false):=by simp[Hid,fo,v]
  clear v;go_wp2_with fail
  all_goals go_ret2
  all_goals exact⟨⟨0,false,rfl,b.symm,by omega,by omega,by simp⟩,rfl⟩
def iO(s:aq):aq:=s.extract 1 s.size
def fV(s:aq):Bool:=
 if s.data.toList[0]?=some 35 then fo (iO s) 2
 else if s.data.toList[0]?=some 36 then fo (iO s) 2
 else if s.data.toList[0]?=some 45 then fo (iO s) 13 && !(l6 (iO s).data.toList==0)
 else if s.toList==[95]then true
 else if fo s 13 then true
 else decide (0<s.size) && gF s.data.toList
def lR(s:aq):Int×Int×aq:=
 if s.data.toList[0]?=some 35 then (3,l6 (iO s).data.toList,⟨#[]⟩)
 else if s.data.toList[0]?=some 36 then (5,l6 (iO s).data.toList,⟨#[]⟩)
 else if s.data.toList[0]?=some 45 then (1,-l6 (iO s).data.toList,⟨#[]⟩)
 else if s.toList==[95]then (6,0,⟨#[]⟩)
 else if fo s 13 then (1,l6 s.data.toList,⟨#[]⟩)
 else (2,0,s)
def MB(s:aq)(e:Ending):Prop:=
 ∃(k a:Int)(t:aq)(b:Bool),e=.returned (.tuple #[.agg #[ab k,ab a,af t,ae none 0 0],.bool b])/\Hid (b=fV s/\(b=true->(k,a,t)=lR s)/\t.size<=s.size/\dN k/\dN a)
theorem E9(s:aq):(iO s).size<=s.size:=by simp[iO]
def OQ(k:Int)(s:aq)(e:Ending):Prop:=
 ∃(a:Int)(b:Bool),e=.returned (.tuple #[.agg #[ab k,ab a,af ⟨#[]⟩,ae none 0 0],.bool b])/\Hid (b=fo s 2/\0<=a/\a<100000000000000/\(b=true->a=l6 s.data.toList))
theorem r7(k:Int)(s:aq)(w:ag)(c:s.size<=9223372036854775807):ao 145 #[ab k,af s] w λe w'=>OQ k s e/\am w w':=by
 go_enter func145,ntmps145;go_wp2_with (go_at_call 146;refine(oO _ _ _ c (by omega)).mono ?_;rintro e w' ⟨⟨v,b,rfl,a⟩,rfl⟩);exact ay (v:=.tuple #[.agg #[ab k,ab v,af ⟨#[]⟩,ae none 0 0],.bool b]) (by simp[results,results145,go_sem]) rfl ⟨⟨v,b,rfl,a⟩,by go_grown⟩
theorem GV(s:aq)(w:ag)(b:s.size<=2048):ao 63 #[af s] w λe w'=>e=.returned (af s)/\am w w':=by
 go_enter func63,ntmps63;go_wp2_with (go_at_call 98;refine(Tryz.stringslite_Clone s w (by omega)).mono ?_;rintro e w' ⟨rfl,a⟩)
 go_ret
 exact⟨rfl,a⟩
theorem G3(s:aq)(a:0<s.size)(b:vv s[0]=false)(m:Int):fo s m=false:=by simp[fo,xU s 0 a b]
theorem Ic(s:aq)(a:0<s.size)(c:Ae s[0]=false):gF s.data.toList=false:=by
 have b:gF s.data.toList=(gF (s.data.toList.take 1) && gF (s.data.toList.drop 1)):=by
  conv=>lhs;rw[<-iA 1 s.data.toList]
  simp only[gF,lf]
 rw[b,vU s 0 a,c];simp
theorem O0(s:aq)(d:0<s.size)(b:¬s[0]=95):(s.toList==[95])=false:=by
 rw[cI];have a:=rQ s d;cases hl:s.data.toList with
 | nil=>rfl
 | cons c l=>
  rw[hl]at a;simp at a;rw[<-a]at b;simp[b]
def pZ(k a:Int)(t:aq):au:=.agg #[ab k,ab a,af t,ae none 0 0]
theorem dM{a:Int}(b: -100000000000000<=a)(c:a<=100000000000000):dN a:=⟨by omega,by omega⟩
theorem zw{w w':ag}{v0 v1 v2 v3:au}{t:TypeId}(c:Below (w.alloc (.cells #[v0,v1,v2,v3] t)).heap.size (w.alloc (.cells #[v0,v1,v2,v3] t)) w'):(ai w' w.heap.size 0 v0/\ai w' w.heap.size 1 v1/\ai w' w.heap.size 2 v2/\ai w' w.heap.size 3 v3)/\ (w'.frozen? ⟨w.heap.size,0,none⟩=false/\w'.frozen? ⟨w.heap.size,1,none⟩=false/\w'.frozen? ⟨w.heap.size,2,none⟩=false/\w'.frozen? ⟨w.heap.size,3,none⟩=false):=by
 have a:=λo=>c.cell (p:=⟨w.heap.size,o,none⟩) (by simp);have b:=λo=>c.frozen (p:=⟨w.heap.size,o,none⟩) (by simp);exact⟨⟨(a 0).trans (by simp[go_sem]),(a 1).trans (by simp[go_sem]),(a 2).trans (by simp[go_sem]),(a 3).trans (by simp[go_sem])⟩,(b 0).trans (by simp[go_sem]),(b 1).trans (by simp[go_sem]),(b 2).trans (by simp[go_sem]),(b 3).trans (by simp[go_sem])⟩
theorem D0{w w':ag}{o:Obj}(e:Below (w.alloc o).heap.size (w.alloc o) w')(a b c d:au):am w ((((w'.setCell ⟨w.heap.size,0,none⟩ a).setCell ⟨w.heap.size,1,none⟩ b).setCell ⟨w.heap.size,2,none⟩ c).setCell ⟨w.heap.size,3,none⟩ d):=by
 have f:am w w':=(aS _ _).trans (e.mono (by simp))
 go_grown
theorem IJ(s:aq)(w:ag)(y:s.size<=2048):ao 109 #[af s] w λe w'=>MB s e/\am w w':=by
 have D:=E9 s;by_cases g:0<s.size
 ·have p:=CR g;have u:(s.toList=[])=False:=by simpa using p
  have i:=ap (rQ s g);have C:(1:Int)<=s.size:=by omega
  by_cases j:s[0]=95
  ·have c:Hid (fV s=(s.toList==[95])/\((s.toList==[95])=true->lR s=(6,0,⟨#[]⟩))):=by
     simp only[Hid,fV,lR,i.out,j,G3 s g (by simp[vv,j]) 13,Ic s g (by simp[Ae,j])];cases h:(s.toList==[95])<;>simp
   go_enter func109,ntmps109;go_wp2_with fail;exact ay (v:=.tuple #[pZ 6 0 ⟨#[]⟩,.bool (s.toList==[95])]) (by simp[results,results109,go_sem,pZ]) rfl ⟨⟨6,0,⟨#[]⟩,_,rfl,c.1.symm,λh=>(c.2 h).symm,aM _,dM (by omega) (by omega),dM (by omega) (by omega)⟩,by go_grown⟩
  ·have d1:=kD (k:=95) (d:=95) rfl j;by_cases q:s[0]=35
   ·have c:Hid (fV s=fo (iO s) 2/\lR s=(3,l6 (iO s).data.toList,⟨#[]⟩)):=by
      simp[Hid,fV,lR,i.out,q]
    go_enter func109,ntmps109;go_wp2_with (go_at_call 145;refine(r7 3 (iO s) _ (by omega)).mono ?_;rintro e w' ⟨⟨v,b,rfl,a⟩,f⟩;obtain⟨⟨l,m,n,o⟩,f0,f1,f2,f3⟩:=zw f;have HB:=ap (D0 f);clear f);exact ay (v:=.tuple #[pZ 3 v ⟨#[]⟩,.bool b]) (by simp[results,results109,go_sem,pZ,l,m,n,o]) rfl ⟨⟨3,v,⟨#[]⟩,_,rfl,by rw[c.out.1,a.out.1],λh=>by rw[c.out.2,a.out.2.2.2 h],aM _,dM (by omega) (by omega),dM (by have:=a.2.1;omega) (by have:=a.2.2.1;omega)⟩,HB _ _ _ _⟩
   ·have d2:=kD (k:=35) (d:=35) rfl q;by_cases r:s[0]=36
    ·have c:Hid (fV s=fo (iO s) 2/\lR s=(5,l6 (iO s).data.toList,⟨#[]⟩)):=by
       simp[Hid,fV,lR,i.out,r]
     go_enter func109,ntmps109;go_wp2_with (go_at_call 145;refine(r7 5 (iO s) _ (by omega)).mono ?_;rintro e w' ⟨⟨v,b,rfl,a⟩,f⟩;obtain⟨⟨l,m,n,o⟩,f0,f1,f2,f3⟩:=zw f;have HB:=ap (D0 f);clear f);exact ay (v:=.tuple #[pZ 5 v ⟨#[]⟩,.bool b]) (by simp[results,results109,go_sem,pZ,l,m,n,o]) rfl ⟨⟨5,v,⟨#[]⟩,_,rfl,by rw[c.out.1,a.out.1],λh=>by rw[c.out.2,a.out.2.2.2 h],aM _,dM (by omega) (by omega),dM (by have:=a.2.1;omega) (by have:=a.2.2.1;omega)⟩,HB _ _ _ _⟩
    ·have d3:=kD (k:=36) (d:=36) rfl r;by_cases t:s[0]=45
     ·have c:Hid (fV s=(fo (iO s) 13 && !(l6 (iO s).data.toList==0))/\lR s=(1,-l6 (iO s).data.toList,⟨#[]⟩)):=by
        simp[Hid,fV,lR,i.out,t]
      go_enter func109,ntmps109;go_wp2_with (go_at_call 146;refine(oO (iO s) 13 _ (by omega) (by omega)).mono ?_;rintro e w' ⟨⟨v,b,rfl,a⟩,rfl⟩;obtain⟨A,B⟩:=(⟨a.2.1,a.2.2.1⟩:0<=v/\v<100000000000000);cases b)
      ·exact ay (v:=.tuple #[pZ 1 (-v) ⟨#[]⟩,.bool false]) (by simp[results,results109,go_sem,pZ]) rfl ⟨⟨1,-v,⟨#[]⟩,_,rfl,by rw[c.out.1,<-a.out.1];rfl,by simp,aM _,dM (by omega) (by omega),dM (by omega) (by omega)⟩,by go_grown⟩
      ·exact ay (v:=.tuple #[pZ 1 (-v) ⟨#[]⟩,.bool (v !=0)]) (by simp[results,results109,go_sem,pZ]) rfl ⟨⟨1,-v,⟨#[]⟩,_,rfl,by rw[c.out.1,<-a.out.1,<-a.out.2.2.2 (by trivial)];simp[bne],λ_=>by rw[c.out.2,a.out.2.2.2 (by trivial)],aM _,dM (by omega) (by omega),dM (by omega) (by omega)⟩,by go_grown⟩
     ·have d4:=kD (k:=45) (d:=45) rfl t;have c:Hid (fV s=(fo s 13 || gF s.data.toList)/\(lR s=if fo s 13=true then (1,l6 s.data.toList,⟨#[]⟩)else (2,0,s))):=by
       simp only[Hid,fV,lR,i.out,O0 s g j];simp[q,r,t];cases fo s 13<;>simp[g]
      go_enter func109,ntmps109
      go_wp2_with (first
       | (go_at_call 146;refine(oO s 13 _ (by omega) (by omega)).mono ?_;rintro e w' ⟨⟨v,b,rfl,a⟩,rfl⟩;obtain⟨A,B⟩:=(⟨a.2.1,a.2.2.1⟩:0<=v/\v<100000000000000);cases b)
       | (go_at_call 63;refine(GV s _ y).mono ?_;rintro e E ⟨rfl,f⟩;obtain⟨⟨l,m,n,o⟩,f0,f1,f2,f3⟩:=zw f;have HB:=ap (D0 f);clear f)
       | (go_at_call 110;refine(tL s _ (by omega)).mono ?_;rintro e F ⟨rfl,rfl⟩))
      ·exact ay (v:=.tuple #[pZ 2 0 s,.bool (gF s.data.toList)]) (by simp[results,results109,go_sem,pZ,l,m,n,o]) rfl ⟨⟨2,0,s,_,rfl,by rw[c.out.1,<-a.out.1];rfl,λ_=>by rw[c.out.2,<-a.out.1];rfl,av _,dM (by omega) (by omega),dM (by omega) (by omega)⟩,HB _ _ _ _⟩
      ·exact ay (v:=.tuple #[pZ 1 v ⟨#[]⟩,.bool true]) (by simp[results,results109,go_sem,pZ]) rfl ⟨⟨1,v,⟨#[]⟩,_,rfl,by rw[c.out.1,<-a.out.1];rfl,λ_=>by rw[c.out.2,<-a.out.1,a.out.2.2.2 (by trivial)];rfl,aM _,dM (by omega) (by omega),dM (by omega) (by omega)⟩,by go_grown⟩
 ·have p:=CQ g;have u:(s.toList=[])=True:=by simpa using p
  have c:Hid (fV s=false):=by
   have z:s.size=0:=by omega
   have x:s.data.toList=[]:=by rw[<-cI];simpa using p
   simp[Hid,fV,cI,fo,x,z]
  go_enter func109,ntmps109;go_wp2_with fail;exact ay (v:=.tuple #[pZ 0 0 ⟨#[]⟩,.bool false]) (by simp[results,results109,go_sem,pZ]) rfl ⟨⟨0,0,⟨#[]⟩,_,rfl,c.symm,by simp,aM _,dM (by omega) (by omega),dM (by omega) (by omega)⟩,by go_grown⟩
def O3(c:UInt8):Bool:=c==32
def zR(c:UInt8):Bool:=c==32 || c==40 || c==41
def gm(p:UInt8->Bool)(s:aq)(i:Nat):Nat:=i+((s.data.toList.drop i).takeWhile p).length
theorem FN(s:aq)(k:Nat)(a:k<s.size):s.data.toList.drop k=s[k]::s.data.toList.drop (k+1):=by
 rw[eX (by simpa using a)];rfl
theorem yO{p:UInt8->Bool}{s:aq}{k:Nat}(a:k<s.size)(b:p s[k]=true):gm p s (k+1)=gm p s k:=by
 unfold gm;rw[FN s k a,List.takeWhile_cons,if_pos b,bA];omega
theorem yP{p:UInt8->Bool}{s:aq}{k:Nat}(a:k<s.size)(b:p s[k]=false):gm p s k=k:=by
 unfold gm;rw[FN s k a,List.takeWhile_cons,if_neg (by simp[b])];rfl
theorem CS{p:UInt8->Bool}{s:aq}{k:Nat}(a:¬k<s.size):gm p s k=k:=by
 unfold gm;rw[pO (by simp;omega)];rfl
theorem AF(p:UInt8->Bool)(s:aq)(k:Nat):k<=gm p s k:=iB _ _
theorem Gm(p:UInt8->Bool)(s:aq)(k:Nat)(a:k<=s.size):gm p s k<=s.size:=by
 unfold gm;have b:=(List.takeWhile_sublist (l:=s.data.toList.drop k) p).length_le;have c:(s.data.toList.drop k).length=s.size-k:=by simp
 omega
def ed(s:aq)(i:Nat):Nat:=gm O3 s i
def eT(s:aq)(i:Nat):Nat:=if gm (λc=> !zR c) s (ed s i)=ed s i/\ed s i<s.size then ed s i+1 else gm (λc=> !zR c) s (ed s i)
theorem nu(s:aq)(i:Nat):i<=ed s i:=AF _ _ _
theorem Dk(s:aq)(i:Nat)(a:i<=s.size):ed s i<=s.size:=Gm _ _ _ a
theorem Dl(s:aq)(i:Nat):ed s i<=eT s i:=by
 unfold eT;have:=AF (λc=> !zR c) s (ed s i);split<;>omega
theorem Dm(s:aq)(i:Nat)(a:i<=s.size):eT s i<=s.size:=by
 unfold eT;have:=Gm (λc=> !zR c) s (ed s i) (Dk s i a);split<;>omega
theorem sF(s:aq)(i:Nat)(a:ed s i<s.size):ed s i<eT s i:=by
 unfold eT;have:=AF (λc=> !zR c) s (ed s i);split<;>omega
theorem Jy(s:aq)(i:Nat)(a:i<=s.size)(b:¬ed s i<s.size):ed s i=s.size/\eT s i=s.size:=by
 have c:=Dk s i a;have d:=Dm s i a;have e:=Dl s i;omega
def Rd(r:Nat)(s:aq)(b e:Nat)(w:ag):Prop:=w.heap[r]?=some (.cells #[af s,ab b,ab e] 146)
theorem Rd.cells{r:Nat}{s:aq}{b e:Nat}{w:ag}(a:Rd r s b e w):(w.cell? ⟨r,0,none⟩=some (af s)/\w.cell? ⟨r,1,none⟩=some (ab b)/\w.cell? ⟨r,2,none⟩=some (ab e))/\w.frozen? ⟨r,1,none⟩=false/\w.frozen? ⟨r,2,none⟩=false:=by
 unfold Rd at a;exact⟨⟨by simp[World.cell?,a],by simp[World.cell?,a],by simp[World.cell?,a]⟩,by simp[World.frozen?,a],by simp[World.frozen?,a]⟩
theorem Rd.set1{r:Nat}{s:aq}{b e:Nat}{w:ag}(a:Rd r s b e w)(k:Nat):Rd r s k e (w.setCell ⟨r,1,none⟩ (ab k)):=by
 unfold Rd at*;simp[World.setCell,bT,a]
theorem Rd.set2{r:Nat}{s:aq}{b e:Nat}{w:ag}(a:Rd r s b e w)(k:Nat):Rd r s b k (w.setCell ⟨r,2,none⟩ (ab k)):=by
 unfold Rd at*;simp[World.setCell,bT,a]
theorem Rd.drew{r:Nat}{s:aq}{b e:Nat}{w:ag}(a:Rd r s b e w)(n:Nat):Rd r s b e (w.drewN n):=a
theorem Rd.lt{r:Nat}{s:aq}{b e:Nat}{w:ag}(a:Rd r s b e w):r<w.heap.size:=(aI.1 a).1
theorem nd(w:ag)(r o:Nat)(v:au):w.grownBy (w.setCell ⟨r,o,none⟩ v) (some r):=
 ⟨rfl,rfl,rfl,by simp[World.setCell],λk _ b=>fu w _ v k (λa=>b (by rw[a]))⟩
theorem fe(w:ag)(n:Nat)(q:da):w.grownBy (w.drewN n) q:=⟨rfl,rfl,rfl,av _,λ_ _ _=>rfl⟩
theorem ci{w w1 w2:ag}{q:da}(a:w.grownBy w1 q)(k:w1.grownBy w2 q):w.grownBy w2 q:=
 ⟨k.os.trans a.os,k.tape.trans a.tape,k.output.trans a.output,aF a.size k.size,λd b c=>(k.block d (aW b a.size) c).trans (a.block d b c)⟩
theorem Kq(c:UInt8)(w:ag):ao 107 #[.int .u8 c.toNat] w λe w'=>e=.returned (.bool (zR c))/\w'=w:=by
 by_cases a:c=32
 ·subst a;go_enter func107,ntmps107;go_wp2_with fail
  all_goals go_ret
  all_goals exact⟨rfl,rfl⟩
 ·have d1:=kD (k:=32) (d:=32) rfl a;by_cases b:c=40
  ·subst b;go_enter func107,ntmps107;go_wp2_with fail
   all_goals go_ret
   all_goals exact⟨rfl,rfl⟩
  ·have d2:=kD (k:=40) (d:=40) rfl b;by_cases f:c=41
   ·subst f;go_enter func107,ntmps107;go_wp2_with fail
    all_goals go_ret
    all_goals exact⟨rfl,rfl⟩
   ·have d3:=kD (k:=41) (d:=41) rfl f;go_enter func107,ntmps107;go_wp2_with fail
    all_goals go_ret
    all_goals exact⟨b9 (by rw[show zR c=false by simp[zR,a,b,f]];simp;omega),rfl⟩
theorem Mn(r:Nat)(s:aq)(b e:Nat)(w:ag)(a:Rd r s b e w)(h:b<=e)(j:e<=s.size):ao 70 #[aH r] w λc w'=>c=.returned (af (s.extract b e))/\∃n,w'=w.drewN n:=by
 obtain⟨⟨d,f,g⟩,f1,f2⟩:=a.cells;clear a;have i:(b:Int)<=e:=by omega
 have k:(e:Int)<=s.size:=by omega
 go_enter func70,ntmps70;go_wp2_with fail
 go_quiet (fail)
 go_wp2_with fail
 go_ret
 exact⟨by simp,_,rfl⟩
theorem qM{w w1 w2:ag}{q:da}(a:w.grownBy w1 q)(c:w2.os=w1.os)(d:w2.tape=w1.tape)(e:w2.output=w1.output)(b:w2.heap=w1.heap):w.grownBy w2 q:=
 ⟨c.trans a.os,d.trans a.tape,e.trans a.output,by rw[b];exact a.size,λk f g=>by rw[b];exact a.block k f g⟩
theorem FO(c:UInt8)(w:ag)(b:Bool)(a:zR c=b):ao 107 #[.int .u8 c.toNat] w λe w'=>e=.returned (.bool b)/\w'=w:=by
 rw[<-a];exact Kq c w
theorem rY(r:Nat)(s:aq)(F g:Nat)(w:ag)(e:Rd r s F g w)(J:g<=s.size)(V:s.size<=2048):ao 68 #[aH r] w λG w'=>G=.returned (.tuple #[])/\Hid (Rd r s (ed s g) (eT s g) w'/\w.grownBy w' (some r)):=by
 obtain⟨⟨B,v,x⟩,f1,f2⟩:=e.cells;have z:=ap (⟨e.set1 g,nd w r 1 (ab g)⟩:_/\_);clear e;go_enter func68,ntmps68;go_wp2_with fail;go_loopw [] (λwr=>∃k:Nat,k<=s.size/\Hid (Rd r s k g wr/\w.grownBy wr (some r)/\gm O3 s k=ed s g)/\True) (λwr=>s.size-(intOf ((wr.cell? ⟨r,1,none⟩).getD undef)).toNat)
 case atStart=>exact⟨g,J,⟨z.1,z.2,rfl⟩,trivial⟩
 case round=>
  obtain⟨k,K,j,_⟩:=hrel;obtain⟨⟨B,v,x⟩,f1,f2⟩:=j.out.1.cells;by_cases h:∃e:k<s.size,s[k]=32
  ·obtain⟨b,H⟩:=h;have L:(k:Int)<s.size:=by omega
   have C:decide ((k:Int)<s.size)=true:=by simp;omega
   have u:=ap (yO (p:=O3) b (by simp[O3,H]));go_wp2_with fail
   go_quiet (fail)
   go_wp2_with fail;go_roundw
   case rel=>exact⟨k+1,by omega,⟨(j.1.drew nq).set1 (k+1),ci j.2.1 (ci (fe wr nq _) (nd _ _ _ _)),by rw[u.out];exact j.2.2⟩,trivial⟩
   case measure=>simp[go_sem,v,intOf];omega
  ·have i:Hid (ed s g=k):=by
     rw[<-j.out.2.2];by_cases b:k<s.size
     ·exact yP (p:=O3) b (by simp[O3];exact λe=>h ⟨b,e⟩)
     ·exact CS (p:=O3) b
   have I:((¬k<s.size)/\decide ((k:Int)<s.size)=false)\/((k:Int)<s.size/\decide ((k:Int)<s.size)=true/\∃e:k<s.size,((s[k].toNat:Int)==32)=false):=by
    by_cases b:k<s.size
    ·have S:=kD (k:=32) (d:=32) rfl (λe=>h ⟨b,e⟩);exact ak ⟨by omega,by simp;omega,b,by simp;omega⟩
    ·exact aj ⟨b,by simp;omega⟩
   clear h;rcases I with⟨b,C⟩|⟨L,C,b,T⟩
   all_goals
    go_wp2_with fail
    go_quiet (fail)
    have A:=ap (show Rd r s k k ((wr.drewN nq).setCell ⟨r,2,none⟩ (ab k))/\w.grownBy ((wr.drewN nq).setCell ⟨r,2,none⟩ (ab k)) (some r)from⟨(j.1.drew nq).set2 k,ci j.2.1 (ci (fe wr nq _) (nd _ _ _ _))⟩);go_wp2_with fail;go_loopw [] (λq=>∃a:Nat,a<=s.size/\k<=a/\Hid (Rd r s k a q/\w.grownBy q (some r)/\gm (λc=> !zR c) s a=gm (λc=> !zR c) s k)/\True) (λq=>s.size-(intOf ((q.cell? ⟨r,2,none⟩).getD undef)).toNat)
    case atStart=>exact⟨k,K,av _,⟨A.1,A.2,rfl⟩,trivial⟩
    case round=>
     obtain⟨a,U,D,f,_⟩:=hrel;obtain⟨⟨B,v,x⟩,f1,f2⟩:=f.out.1.cells;by_cases h:∃e:a<s.size,zR s[a]=false
     ·obtain⟨n,o⟩:=h;have y:k<s.size:=Nat.lt_of_le_of_lt D n
      first|exact absurd y b|skip
      all_goals
       have R:(a:Int)<s.size:=by omega
       have E:decide ((a:Int)<s.size)=true:=by simp;omega
       have u:=ap (yO (p:=λc=> !zR c) n (by simp[o]));go_wp2_with fail
       go_quiet ((go_at_call 107;exact Calls.quiet_of_same (FO s[a] _ _ o)))
       go_wp2_with fail;go_roundw
       case rel=>exact⟨a+1,by omega,by omega,⟨(f.1.drew _).set2 (a+1),ci f.2.1 (ci (fe _ _ _) (nd _ _ _ _)),by rw[u.out];exact f.2.2⟩,trivial⟩
       case measure=>simp[go_sem,x,intOf];omega
     ·have t:Hid (gm (λc=> !zR c) s k=a):=by
        rw[<-f.out.2.2];by_cases b:a<s.size
        ·exact yP (p:=λc=> !zR c) b (by simp;cases e:zR s[a];exact absurd ⟨b,e⟩ h;rfl)
        ·exact CS (p:=λc=> !zR c) b
      have Q:((¬a<s.size)/\decide ((a:Int)<s.size)=false)\/((a:Int)<s.size/\decide ((a:Int)<s.size)=true/\∃e:a<s.size,zR s[a]=true):=by
       by_cases b:a<s.size
       ·exact ak ⟨by omega,by simp;omega,b,by cases e:zR s[a];exact absurd ⟨b,e⟩ h;rfl⟩
       ·exact aj ⟨b,by simp;omega⟩
      clear h;rcases Q with⟨n,E⟩|⟨R,E,n,o⟩
      ·have m:Hid (eT s g=a):=by
         simp only[Hid,eT,i.out,t.out];rw[if_neg (by omega)]
       go_wp2_with fail
       go_quiet (fail)
       go_wp2_with fail;by_cases l:a=k
       ·first|exact absurd (show a<s.size by omega) n|skip
        all_goals
         subst l
         go_quiet (fail)
         go_wp2_with fail
         go_end0
         refine⟨rfl,?_,qM f.2.1 rfl rfl rfl rfl⟩;rw[i.out,m.out];exact f.1
       ·first|exact absurd (show a=k by omega) l|skip
        all_goals
         have M:((a:Int)==k)=false:=by simp;omega
         have N:(a==k)=false:=by simp;omega
         have O:decide (a=k)=false:=by simp;omega
         have P:decide ((a:Int)=k)=false:=by simp;omega
         clear l
         go_quiet (fail)
         go_wp2_with fail
         go_end0
         refine⟨rfl,?_,qM f.2.1 rfl rfl rfl rfl⟩;rw[i.out,m.out];exact f.1
      ·have y:k<s.size:=Nat.lt_of_le_of_lt D n
       first|exact absurd y b|skip
       all_goals
        go_wp2_with fail
        go_quiet ((go_at_call 107;exact Calls.quiet_of_same (FO s[a] _ _ o)))
        go_wp2_with fail;by_cases l:a=k
        ·have m:Hid (eT s g=a+1):=by
           simp only[Hid,eT,i.out,t.out];rw[if_pos ⟨l,by omega⟩];omega
         subst l
         go_quiet (fail)
         go_wp2_with fail
         go_end0
         refine⟨rfl,?_,ci f.2.1 (ci (fe _ _ _) (nd _ _ _ _))⟩;rw[i.out,m.out];exact Rd.set2 f.1 (a+1)
        ·have m:Hid (eT s g=a):=by
           simp only[Hid,eT,i.out,t.out];rw[if_neg (by omega)]
         have M:((a:Int)==k)=false:=by simp;omega
         have N:(a==k)=false:=by simp;omega
         have O:decide (a=k)=false:=by simp;omega
         have P:decide ((a:Int)=k)=false:=by simp;omega
         clear l
         go_quiet (fail)
         go_wp2_with fail
         go_end0
         refine⟨rfl,?_,qM f.2.1 rfl rfl rfl rfl⟩;rw[i.out,m.out];exact f.1
abbrev fY:Type:=Nat×aq
def Dx(x:aq):Bool:=x.toList==[40]
def zZ(x:aq):Bool:=x.toList==[41]
theorem Nh{x:aq}{c:UInt8}(a:(x.toList==[c])=true):x.data.toList=[c]/\x.size=1:=by
 rw[cI]at a;have b:x.data.toList=[c]:=by simpa using a
 refine⟨b,?_⟩;have:x.data.toList.length=x.size:=by simp
 rw[b]at this;simpa using this.symm
theorem vR{x:aq}(a:zZ x=true):fV x=false/\Dx x=false:=by
 obtain⟨b,c⟩:=Nh a;simp[fV,Dx,fo,cI,b,ji,vv,gF,Ae]
def Fv{a:Type}(f:a->List fY->List fY->Prop):List a->List fY->List fY->Prop
 | [],ts,r=>ts=r
 | x::l,ts,r=>∃m,f x ts m/\Fv f l m r
def Is:(n:Nat)->Tm n->List fY->List fY->Prop
 | 0,_,_,_=>False
 | n+1,x,ts,r=>∃t a,ts=t::a/\((Dx t.2=false/\fV t.2=true/\x.1=lR t.2/\x.2.2=[]/\r=a)\/
    (Dx t.2=true/\x.1=(4,0,⟨#[]⟩)/\∃c,Fv (Is n) x.2.2 a (c::r)/\zZ c.2=true))
theorem Fv.snoc{b:Type}{f:b->List fY->List fY->Prop}{x:b}{r:List fY}:{l:List b}->{a m:List fY}->Fv f l a m->f x m r->Fv f (l++ [x]) a r
 | [],a,m,h,hx=>by
  have e:a=m:=h;subst e;exact⟨r,hx,rfl⟩
 | y::l,a,m,h,hx=>by
  obtain⟨q,c,d⟩:=h;exact⟨q,c,d.snoc hx⟩
theorem Is.head{n:Nat}{x:Tm n}{c r:List fY}(a:Is n x c r):∃t b,c=t::b/\zZ t.2=false:=by
 cases n with
 | zero=>exact a.elim
 | succ n=>
  obtain⟨t,b,rfl,a⟩:=a;refine⟨t,b,rfl,?_⟩;cases hc:zZ t.2
  ·rfl
  ·have:=vR hc;rcases a with a|a
   ·rw[this.1]at a;exact absurd a.2.1 (by simp)
   ·rw[this.2]at a;exact absurd a.1 (by simp)
theorem Fv.one{n m:Nat}(ih:∀(x:Tm n)(y:Tm m)(d r f:List fY),Is n x d r->Is m y d f->aB n x m y=true/\r=f):(p:List (Tm n))->(q:List (Tm m))->(d:List fY)->(c i:fY)->(r f:List fY)->zZ c.2=true->zZ i.2=true->Fv (Is n) p d (c::r)->Fv (Is m) q d (i::f)->aG (λa b=>aB n a m b) p q=true/\r=f
 | [],[],d,c,i,r,f,hc,hc',h,h'=>by
  have j:d=c::r:=h;have g:d=i::f:=h';rw[j]at g;injection g with _ e;exact⟨rfl,e⟩
 | [],y::q,d,c,i,r,f,hc,hc',h,h'=>by
  have j:d=c::r:=h;obtain⟨A,k,_⟩:=h';obtain⟨t,C,g,l⟩:=k.head;rw[j]at g;injection g with e _;rw[<-e,hc]at l;exact absurd l (by simp)
 | x::p,[],d,c,i,r,f,hc,hc',h,h'=>by
  have j:d=i::f:=h';obtain⟨A,k,_⟩:=h;obtain⟨t,C,g,l⟩:=k.head;rw[j]at g;injection g with e _;rw[<-e,hc']at l;exact absurd l (by simp)
 | x::p,y::q,d,c,i,r,f,hc,hc',h,h'=>by
  obtain⟨o,k,v⟩:=h;obtain⟨B,w,z⟩:=h';obtain⟨j,g⟩:=ih x y d o B k w;subst g;obtain⟨s,u⟩:=Fv.one ih p q o c i r f hc hc' v z;exact⟨by simp only[aG];rw[j,s];rfl,u⟩
theorem Is.one:(n:Nat)->(m:Nat)->(x:Tm n)->(y:Tm m)->(f r b:List fY)->Is n x f r->Is m y f b->aB n x m y=true/\r=b
 | 0,_,_,_,_,_,_,a,_=>a.elim
 | _+1,0,_,_,_,_,_,_,a=>a.elim
 | n+1,m+1,x,y,f,r,b,a,g=>by
  obtain⟨t,z,rfl,a⟩:=a;obtain⟨t2,A,e,g⟩:=g;injection e with h i;subst h i;rcases a with⟨o,_,l,j,v⟩|⟨o,l,c,j,s⟩
  ·rcases g with⟨_,_,p,k,w⟩|⟨d,_⟩
   ·refine⟨?_,v.trans w.symm⟩;simp only[aB,l,p,j,k,aG];simp
   ·rw[o]at d;exact absurd d (by simp)
  ·rcases g with⟨d,_⟩|⟨_,p,q,k,u⟩
   ·rw[o]at d;exact absurd d (by simp)
   ·obtain⟨h,i⟩:=Fv.one (λx y f r b=>Is.one n m x y f r b) x.2.2 y.2.2 z c q r b s u j k;refine⟨?_,i⟩;simp only[aB,l,p,h];simp
theorem uE:(n:Nat)->(x:Tm n)->(a r:List fY)->Is n x a r->(aC n x).length+r.length<=a.length
 | 0,_,_,_,b=>b.elim
 | n+1,x,a,r,b=>by
  have key:∀(l:List (Tm n))(a r:List fY),Fv (Is n) l a r->(l.flatMap λy=>aC n y).length+r.length<=a.length:=by
   intro l
   induction l with
   | nil=>intro a r b;have f:a=r:=b;subst f;simp
   | cons y l ih=>
    intro a r b;obtain⟨e,g,h⟩:=b;have:=uE n y a e g;have:=ih e r h;simp only[bP,bz];omega
  obtain⟨t,k,rfl,b⟩:=b;simp only[aC,bA];rcases b with⟨o,_,j,d,i⟩|⟨o,j,c,d,m⟩
  ·rw[d,i];simp;omega
  ·have:=key x.2.2 k (c::r) d;simp only[bA]at this;omega
def kw(L:Nat):List fY->Nat->Option Nat
 | [],0=>none
 | [],_+1=>some L
 | t::_,0=>some t.1
 | t::ts,d+1=>if Dx t.2 then kw L ts (d+2)else if zZ t.2 then kw L ts d else if fV t.2 then kw L ts (d+1)else some t.1
def Dw(L:Nat):List fY->Nat->Option Nat
 | [],_=>some L
 | t::ts,d=>if Dx t.2 then kw L ts (d+1)else if fV t.2 then kw L ts d else some t.1
def Lp(L:Nat):List fY->Nat
 | []=>L
 | t::_=>t.1
theorem CO(L:Nat)(a:List fY)(d:Nat)(b:∀t c,a=t::c->zZ t.2=false):kw L a (d+1)=Dw L a (d+1):=by
 cases a with
 | nil=>rfl
 | cons t a=>simp only[kw,Dw];rw[b t a rfl];simp
theorem ER(L:Nat)(t:fY)(b:List fY)(d:Nat)(a:zZ t.2=true):kw L (t::b) (d+1)=kw L b d:=by
 simp only[kw];rw[(vR a).2,a];simp
theorem yJ{c β:Type}(f:c->β->Bool):(p:List c)->(q:List β)->aG f p q=true->p.length=q.length
 | [],[],_=>rfl
 | [],_::_,h=>by simp[aG]at h
 | _::_,[],h=>by simp[aG]at h
 | a::p,b::q,h=>by
  simp only[aG,aK]at h;simp[yJ f p q h.2]
theorem Nf{k b f g:Int}{s e:aq}{l d c i:Nat}{a h:ar}(j:k=b)(m:f=g)(n:s=e)(o:l=d):cQ ((k,f,s),(a,l,c))=cQ ((b,g,e),(h,d,i)):=by
 subst j m n o;rfl
theorem tV:(n m:Nat)->(x:Tm n)->(y:Tm m)->aB n x m y=true->cr n x=cr m y/\fU n x=fU m y/\sz n x=sz m y
 | 0,_,_,_,c=>by simp[aB]at c
 | _+1,0,_,_,c=>by simp[aB]at c
 | n+1,m+1,x,y,c=>by
  have key:∀(p:List (Tm n))(q:List (Tm m)),aG (λa b=>aB n a m b) p q=true->
    (p.all λy=>cr n y)=(q.all λy=>cr m y)/\(∀a,p.foldl (λm y=>max m (fU n y)) a=q.foldl (λk y=>max k (fU m y)) a)/\(p.map λy=>1+sz n y).sum=(q.map λy=>1+sz m y).sum:=by
   intro p
   induction p with
   | nil=>
    intro q c;cases q with
    | nil=>simp
    | cons b q=>simp[aG]at c
   | cons a p ih=>
    intro q c;cases q with
    | nil=>simp[aG]at c
    | cons b q=>
     simp only[aG,aK]at c;obtain⟨j,l,o⟩:=tV n m a b c.1;obtain⟨e,f,g⟩:=ih q c.2;refine⟨by simp only[jE,j,e],λv=>?_,by simp only[aV,bR,o,g]⟩;simp only[gU,l];exact f _
  simp only[aB,aK,cv]at c;obtain⟨⟨⟨d,r⟩,h⟩,i⟩:=c;obtain⟨e,f,g⟩:=key _ _ i;have t:=yJ _ _ _ i;have u:x.1.2.2=y.1.2.2:=by
   rw[cI,cI]at h;exact ByteArray.ext (Array.toList_inj.1 h)
  refine⟨?_,?_,?_⟩
  ·have s:cQ (bO n x)=cQ (bO m y):=Nf d r u t;simp only[cr,s,d,e]
  ·simp only[fU,d,f]
  ·simp only[sz,d,g]
theorem IV(n m:Nat)(x:Tm n)(y:Tm m)(a:aB n x m y=true):bJ n x=bJ m y:=by
 obtain⟨b,c,d⟩:=tV n m x y a;rw[<-gR,<-gR];simp only[xH,b,c,d]
def sC:Nat->aq->Nat->List fY
 | 0,_,_=> []
 | f+1,s,i=>if ed s i<s.size then (ed s i,s.extract (ed s i) (eT s i))::sC f s (eT s i)else []
def km(s:aq)(i:Nat):List fY:=sC (s.size-i) s i
theorem og(s:aq):(f g i:Nat)->s.size-i<=f->s.size-i<=g->sC f s i=sC g s i
 | 0,0,_,_,_=>rfl
 | 0,g+1,i,h,_=>by
  have:=nu s i;simp only[sC];rw[if_neg (by omega)]
 | f+1,0,i,_,h=>by
  have:=nu s i;simp only[sC];rw[if_neg (by omega)]
 | f+1,g+1,i,h,h'=>by
  simp only[sC];by_cases a:ed s i<s.size
  ·rw[if_pos a,if_pos a];have b:=sF s i a;have c:=nu s i;rw[og s f g (eT s i) (by omega) (by omega)]
  ·rw[if_neg a,if_neg a]
theorem yX(s:aq)(i:Nat)(a:ed s i<s.size):km s i=(ed s i,s.extract (ed s i) (eT s i))::km s (eT s i):=by
 have b:=sF s i a;have c:=nu s i;unfold km;rw[og s (s.size-i) (s.size-i+1) i (by omega) (by omega)];simp only[sC];rw[if_pos a,og s (s.size-i) (s.size-eT s i) (eT s i) (by omega) (by omega)]
theorem wV(s:aq)(i:Nat)(a:¬ed s i<s.size):km s i=[]:=by
 unfold km;rw[og s (s.size-i) (s.size-i+1) i (by omega) (by omega)];simp only[sC];rw[if_neg a]
theorem mB(s:aq):(f i:Nat)->s.size-i<=f->(km s i).length<=s.size-i
 | 0,i,h=>by
  have:=nu s i;rw[wV s i (by omega)];simp
 | f+1,i,h=>by
  by_cases a:ed s i<s.size
  ·have b:=sF s i a;have c:=nu s i;rw[yX s i a];have:=mB s f (eT s i) (by omega);simp only[bA];omega
  ·rw[wV s i a];simp
def At(s:aq)(b e:Nat)(a:List fY):Prop:=
 b<=e/\e<=s.size/\((b=s.size/\a=[])\/(b<e/\a=(b,s.extract b e)::km s e))
theorem At.next{s:aq}{i:Nat}(b:i<=s.size):At s (ed s i) (eT s i) (km s i):=by
 refine⟨Dl s i,Dm s i b,?_⟩;by_cases a:ed s i<s.size
 ·exact ak ⟨sF s i a,yX s i a⟩
 ·exact aj ⟨(Jy s i b a).1,wV s i a⟩
theorem At.pos{s:aq}{b e:Nat}{a:List fY}(c:At s b e a):Lp s.size a=b:=by
 rcases c.2.2 with⟨d,rfl⟩|⟨_,rfl⟩
 ·exact d.symm
 ·rfl
theorem At.nil{s:aq}{b e:Nat}(a:At s b e []):(s.extract b e).toList=[]:=by
 rcases a.2.2 with⟨d,_⟩|⟨_,c⟩
 ·rw[cI];apply bL;have:=a.2.1;simp;omega
 ·exact absurd c (by simp)
theorem At.cons{s:aq}{b e:Nat}{t:fY}{d:List fY}(c:At s b e (t::d)):t=(b,s.extract b e)/\d=km s e/\0<(s.extract b e).size:=by
 rcases c.2.2 with⟨_,a⟩|⟨h,a⟩
 ·exact absurd a (by simp)
 ·injection a with f g;refine⟨f,g,?_⟩;have:=c.2.1;simp;omega
-- Sign by sign:what a sign does to the words ahead.
theorem gi{w w1:ag}{q:da}(a:w.grownBy w1 q)(o:Obj):w.grownBy (w1.alloc o) q:=
 ⟨a.os,a.tape,a.output,by have:=a.size;simp;omega,λk b c=>by
  exact(((aA w1.heap.size w1).alloc (av _) o).block k (aW b a.size)).trans (a.block k b c)⟩
theorem nb{w w1:ag}{q:da}(a:w.grownBy w1 q){b:Nat}(e:w.heap.size<=b)(o:Nat)(v:au):w.grownBy (w1.setCell ⟨b,o,none⟩ v) q:=
 ⟨a.os,a.tape,a.output,by simpa [World.setCell]using a.size,λk c d=>(fu w1 ⟨b,o,none⟩ v k (by simp;omega)).trans (a.block k c d)⟩
theorem Ij{w w1 w2:ag}{q:da}(a:w.grownBy w1 q){g:da}(k:w1.grownBy w2 g)(f:∀b,g=some b->w.heap.size<=b):w.grownBy w2 q:=
 ⟨k.os.trans a.os,k.tape.trans a.tape,k.output.trans a.output,aF a.size k.size,λc d h=>(k.block c (aW d a.size) (λe=>by have:=f c e.symm;omega)).trans (a.block c d h)⟩
theorem oM{w w1 w2:ag}{q:da}(a:w.grownBy w1 q)(k:am w1 w2):w.grownBy w2 q:=
 ⟨k.os.trans a.os,k.tape.trans a.tape,k.output.trans a.output,aF a.size k.size,λc b d=>(k.block c (aW b a.size)).trans (a.block c b d)⟩
theorem Rd.block{r:Nat}{s:aq}{b e:Nat}{w w':ag}(a:Rd r s b e w)(k:w'.heap[r]?=w.heap[r]?):Rd r s b e w':=k.trans a
theorem Rd.alloc{r:Nat}{s:aq}{b e:Nat}{w:ag}(a:Rd r s b e w)(o:Obj):Rd r s b e (w.alloc o):=
 a.block (((aA w.heap.size w).alloc (av _) o).block r a.lt)
theorem Rd.far{r:Nat}{s:aq}{b e:Nat}{w:ag}(a:Rd r s b e w){g:Nat}(c:r<g)(o:Nat)(v:au):Rd r s b e (w.setCell ⟨g,o,none⟩ v):=
 a.block (fu w ⟨g,o,none⟩ v r (by simp;omega))
def ahead(s:aq)(b e:Nat):List fY:=if b<s.size then (b,s.extract b e)::km s e else []
def Qa(r:Nat)(s:aq)(w:ag):Nat:=(ahead s (intOf ((w.cell? ⟨r,1,none⟩).getD undef)).toNat (intOf ((w.cell? ⟨r,2,none⟩).getD undef)).toNat).length
theorem K4{r:Nat}{s:aq}{b e:Nat}{w:ag}{a:List fY}(f:Rd r s b e w)(k:At s b e a):Qa r s w=a.length:=by
 obtain⟨⟨h,c,d⟩,f1,f2⟩:=f.cells;simp only[Qa,c,d,Option.getD_some,intOf,Int.toNat_natCast,ahead];rcases k.2.2 with⟨g,rfl⟩|⟨g,rfl⟩
 ·rw[if_neg (by omega)]
 ·rw[if_pos (by have:=k.2.1;omega)]
def mE(n:Nat)(s:aq)(r:Nat)(d:List fY)(w w':ag)(v:au)(ok:Bool):Prop:=
 w.grownBy w' (some r)/\∃b e c,Rd r s b e w'/\At s b e c/\
  (ok=true->(∃x:Tm n,dG n x=v/\Is n x d c/\In w'.heap.size w' n x/\cD (λf=>w.heap.size<=f) n x)/\∀a,Dw s.size d a=kw s.size c a)/\
  (ok=false->∀a,Dw s.size d a=some (Lp s.size c))
def MD(n:Nat)(s:aq)(r:Nat)(d:List fY)(w w':ag)(e:Ending):Prop:=
 ∃(k b:Int)(t:aq)(a:ar)(l c:Nat)(ok:Bool),e=.returned (.tuple #[.agg #[ab k,ab b,af t,ae a l c],.bool ok])/\
  Hid (mE n s r d w w' (.agg #[ab k,ab b,af t,ae a l c]) ok)
def Ol(n:Nat):Prop:=∀(r:Nat)(s:aq)(b e:Nat)(a:List fY)(w:ag),Rd r s b e w->At s b e a->s.size<=2048->a.length<=n->
 ao 69 #[aH r] w λc w'=>MD (n+1) s r a w w' c
theorem pG(r:Nat)(s:aq)(b e:Nat)(x:aq)(w:ag)(c:Rd r s b e w)(d:b<=e)(f:e<=s.size)(g:s.extract b e=x):ao 70 #[aH r] w λa w'=>a=.returned (af x)/\∃n,w'=w.drewN n:=by
 subst g;exact Mn r s b e w c d f
def Bx(q:Nat)(v0 v1 v2 v3:au)(w:ag):Prop:=w.heap[q]?=some (.cells #[v0,v1,v2,v3] 31)
theorem Bx.cells{q:Nat}{v0 v1 v2 v3:au}{w:ag}(a:Bx q v0 v1 v2 v3 w):(w.cell? ⟨q,0,none⟩=some v0/\w.cell? ⟨q,1,none⟩=some v1/\w.cell? ⟨q,2,none⟩=some v2/\w.cell? ⟨q,3,none⟩=some v3)/\ (w.frozen? ⟨q,0,none⟩=false/\w.frozen? ⟨q,1,none⟩=false/\w.frozen? ⟨q,2,none⟩=false/\w.frozen? ⟨q,3,none⟩=false):=by
 unfold Bx at a;exact⟨⟨by simp[World.cell?,a],by simp[World.cell?,a],by simp[World.cell?,a],by simp[World.cell?,a]⟩,by simp[World.frozen?,a],by simp[World.frozen?,a],by simp[World.frozen?,a],by simp[World.frozen?,a]⟩
theorem Bx.block{q:Nat}{v0 v1 v2 v3:au}{w w':ag}(a:Bx q v0 v1 v2 v3 w)(k:w'.heap[q]?=w.heap[q]?):Bx q v0 v1 v2 v3 w':=k.trans a
theorem Bx.lt{q:Nat}{v0 v1 v2 v3:au}{w:ag}(a:Bx q v0 v1 v2 v3 w):q<w.heap.size:=(aI.1 a).1
theorem Bx.set3{q:Nat}{v0 v1 v2 v3:au}{w:ag}(a:Bx q v0 v1 v2 v3 w)(v:au):Bx q v0 v1 v2 v (w.setCell ⟨q,3,none⟩ v):=by
 unfold Bx at*;simp[World.setCell,bT,a]
theorem Bx.new(w:ag)(v0 v1 v2 v3:au):Bx w.heap.size v0 v1 v2 v3 (w.alloc (.cells #[v0,v1,v2,v3] 31)):=aD w _
def JL(n:Nat)(r:Nat)(s:aq)(c:List fY)(w:ag)(b e:Nat)(v:au)(wr:ag)(l:List (Tm (n+1)))(a:List fY):Prop:=
 Rd r s b e wr/\At s b e a/\(w.alloc (.cells #[ab 0,ab 0,af ⟨#[]⟩,ae none 0 0] 31)).grownBy wr (some r)/\rB (w.heap.size+2) (n+1) l v wr/\
  Bx w.heap.size (ab 0) (ab 0) (af ⟨#[]⟩) (ae none 0 0) wr/\Bx (w.heap.size+1) (ab 4) (ab 0) (af ⟨#[]⟩) v wr/\
  Fv (Is (n+1)) l c a/\a.length<=c.length/\∀d,kw s.size c (d+1)=kw s.size a (d+1)
def MF(n:Nat)(r:Nat)(s:aq)(c:List fY)(w:ag)(b e:Nat)(v:au)(wr:ag):Prop:=
 ∃(l:List (Tm (n+1)))(a:List fY),JL n r s c w b e v wr l a
theorem gd(w:ag)(o:Obj){q:Nat}(a:q<w.heap.size):(w.alloc o).heap[q]?=w.heap[q]? :=(di w o none).block q a (by simp)
theorem Jn{n r:Nat}{s:aq}{b e:Nat}{t0:fY}{a:List fY}{w w1:ag}(h:Rd r s b e w)(c:At s b e (t0::a))(k:Rd r s (ed s e) (eT s e) w1)(g:((w.alloc (.cells #[ab 0,ab 0,af ⟨#[]⟩,ae none 0 0] 31)).alloc (.cells #[ab 4,ab 0,af ⟨#[]⟩,ae none 0 0] 31)).grownBy w1 (some r)):MF n r s a w (ed s e) (eT s e) (ae none 0 0) w1:=by
 have i:=h.lt;have d:=(At.cons c).2.1;refine⟨[],a,k,by rw[d];exact At.next c.2.1,ci (di _ _ _) g,⟨⟨rfl,aj ⟨rfl,rfl⟩⟩,by simp⟩,?_,?_,rfl,av _,λ_=>rfl⟩
 ·exact((Bx.new w _ _ _ _).block (gd _ _ (by simp))).block (g.block _ (by simp;omega) (by simp;omega))
 ·have:=Bx.new (w.alloc (.cells #[ab 0,ab 0,af ⟨#[]⟩,ae none 0 0] 31)) (ab 4) (ab 0) (af ⟨#[]⟩) (ae none 0 0);have f:(w.alloc (.cells #[ab 0,ab 0,af ⟨#[]⟩,ae none 0 0] 31)).heap.size=w.heap.size+1:=by simp
  rw[f]at this;exact this.block (g.block _ (by simp) (by simp;omega))
theorem rB.kept{base n:Nat}{l:List (Tm n)}{v:au}{w w':ag}(a:rB base n l v w){r:Nat}(g:w.grownBy w' (some r))(k:r<base):rB base n l v w':=by
 refine⟨a.1.kept g (ak λf=>by have:=a.1.lt r f;omega),λe d=>⟨?_,(a.2 e d).2⟩⟩;obtain⟨c,h⟩:=a.2 e d;have i:=In.offB h c;exact(In.off (λb j=>g.block b j.2 (by simp;omega)) i c).mono g.size
theorem rB.snoc{base n:Nat}{l:List (Tm (n+1))}{v:au}{w0 w w2:ag}(h:rB base (n+1) l v w0){r:Nat}(i:w0.grownBy w (some r))(A:r<base){x:Tm (n+1)}(C:In w.heap.size w (n+1) x)(y:cD (λq=>w0.heap.size<=q) (n+1) x)(D:base<=w0.heap.size){w1:ag}(j:w.grownBy w1 none){g c:Nat}(z:w2.ownsRow base 31 4 (ae (some ⟨g,0,none⟩) (l.length+1) c) (l.length+1) (cO (l.map (gK (n+1)))++uk (gK (n+1) x)))(k:w1.grownBy w2 v.ownBlock)(u:v.ownBlock=some g\/g=w1.heap.size):rB base (n+1) (l++ [x]) (ae (some ⟨g,0,none⟩) (l.length+1) c) w2:=by
 have p:=h.kept i A;have E:=i.size;have F:=j.size;have G:=k.size;have B:∀b,v.ownBlock=some b->b<w0.heap.size:=λb d=>(h.1.lt b d).2;refine⟨by simpa [cO]using z,λa f=>?_⟩
 have key:∀a:Tm (n+1),In w.heap.size w (n+1) a->cD (λb=>base<=b/\v.ownBlock≠some b) (n+1) a->
   In w2.heap.size w2 (n+1) a/\cD (λb=>base<=b/\(Value.slice (some ⟨g,0,none⟩) (l.length+1) c).ownBlock≠some b) (n+1) a:=by
  intro a m t;have o:=In.offB t m;refine⟨(In.off (λb e=>(k.block b (by omega) (λd=>e.1.2 d.symm)).trans (j.block b e.2 (by simp))) o m).mono (by omega),o.mono λb e=>⟨e.1.1,?_⟩⟩;intro d;have s:g=b:=by simpa [Value.ownBlock]using d
  rcases u with h|h
  ·exact e.1.2 (by rw[h,s])
  ·omega
 rcases de.1 f with f|f
 ·exact key a (p.2 a f).1 (p.2 a f).2
 ·have d:a=x:=by simpa using f
  subst d;exact key a C (y.mono λb e=>⟨by omega,λd=>by have:=B b d;omega⟩)
theorem Jk{n r:Nat}{s:aq}{t0:fY}{p:List fY}{w wr w2:ag}{b e:Nat}{a:ar}{L c m:Nat}(N:r<w.heap.size)(x:Dx t0.2=true)(A:MF n r s p w b e (ae a L c) wr)(j:zZ (s.extract b e)=true)(k:Rd r s (ed s e) (eT s e) w2)(g:(wr.drewN m).grownBy w2 (some r)):mE (n+2) s r (t0::p) (w.alloc (.cells #[ab 0,ab 0,af ⟨#[]⟩,ae none 0 0] 31)) w2 (.agg #[ab 4,ab 0,af ⟨#[]⟩,ae a L c]) true/\ Bx w.heap.size (ab 0) (ab 0) (af ⟨#[]⟩) (ae none 0 0) w2/\Bx (w.heap.size+1) (ab 4) (ab 0) (af ⟨#[]⟩) (ae a L c) w2:=by
 obtain⟨l,o,J,h,q,B,u,v,C,K,D⟩:=A;have P:=q.size;have G:=v.lt;have i:wr.grownBy w2 (some r):=ci (fe wr m _) g;obtain⟨H,I,ev,F,E⟩:=(B.kept i (by omega)).tup;injection ev with d f z;subst d f z;refine⟨⟨ci q i,ed s e,eT s e,km s e,k,At.next h.2.1,λ_=>⟨⟨_,rfl,?_,E,F.mono λO M=>by simp;omega⟩,?_⟩,by simp⟩,u.block (i.block _ u.lt (by simp;omega)),v.block (i.block _ G (by simp;omega))⟩
 ·cases o with
  | nil=>simp[zZ,h.nil]at j
  | cons t o=>
   obtain⟨d,f,_⟩:=h.cons;subst d f;exact⟨t0,p,rfl,ak ⟨x,rfl,_,C,j⟩⟩
 ·intro y;cases o with
  | nil=>simp[zZ,h.nil]at j
  | cons t o=>
   obtain⟨d,f,_⟩:=h.cons;subst d f;simp only[Dw,x,dj];rw[D y,ER _ _ _ _ j]
theorem mE.box{n r:Nat}{s:aq}{d:List fY}{w w1:ag}{o:Obj}{v:au}{ok:Bool}(a:r<w.heap.size)(g:mE n s r d (w.alloc o) w1 v ok)(v0 v1 v2 v3:au):mE n s r d w ((((w1.setCell ⟨w.heap.size,0,none⟩ v0).setCell ⟨w.heap.size,1,none⟩ v1).setCell ⟨w.heap.size,2,none⟩ v2).setCell ⟨w.heap.size,3,none⟩ v3) v ok:=by
 obtain⟨h,b,f,q,i,j,k,l⟩:=g;refine⟨nb (nb (nb (nb (ci (di _ _ _) h) (av _) _ _) (av _) _ _) (av _) _ _) (av _) _ _,b,f,q,(((i.far a _ _).far a _ _).far a _ _).far a _ _,j,λm=>?_,l⟩;obtain⟨⟨x,t,u,y,e⟩,z⟩:=k m;have c:∀b,(w.alloc o).heap.size<=b->((((w1.setCell ⟨w.heap.size,0,none⟩ v0).setCell ⟨w.heap.size,1,none⟩ v1).setCell ⟨w.heap.size,2,none⟩ v2).setCell ⟨w.heap.size,3,none⟩ v3).heap[b]?=w1.heap[b]? :=λb c=>by
  have A:w.heap.size<b:=by simp at c;omega
  rw[fu _ _ _ _ (by simp;omega),fu _ _ _ _ (by simp;omega),fu _ _ _ _ (by simp;omega),fu _ _ _ _ (by simp;omega)]
 refine⟨⟨x,t,u,(In.off c e y).mono (by simp[World.setCell]),e.mono λB p=>by simp at p;omega⟩,z⟩
theorem mE.alloc{n r:Nat}{s:aq}{a:List fY}{w w1:ag}{v:au}{ok:Bool}(f:mE n s r a w w1 v ok)(o:Obj):mE n s r a w (w1.alloc o) v ok:=by
 obtain⟨g,b,e,p,h,i,j,k⟩:=f;refine⟨gi g o,b,e,p,h.alloc o,i,λm=>?_,k⟩;obtain⟨⟨x,q,t,c,d⟩,u⟩:=j m;exact⟨⟨x,q,t,(In.off (λb l=>gd w1 o l.2) (In.offB d c) c).mono (by simp),d⟩,u⟩
theorem At.no{s:aq}{b e:Nat}{a:List fY}(d:At s b e a)(f:zZ (s.extract b e)=false):∀t c,a=t::c->zZ t.2=false:=by
 intro t c e;subst e;rw[d.cons.1];exact f
theorem zb{n r:Nat}{s:aq}{h f:List fY}{w wr w1:ag}{b e m:Nat}{v:au}{l:List (Tm (n+1))}(u:r<w.heap.size)(a:JL n r s h w b e v wr l f)(g:(wr.drewN m).grownBy w1 (some r)):Bx w.heap.size (ab 0) (ab 0) (af ⟨#[]⟩) (ae none 0 0) w1/\Bx (w.heap.size+1) (ab 4) (ab 0) (af ⟨#[]⟩) v w1/\w.heap.size+1<w1.heap.size:=by
 obtain⟨i,j,k,o,c,d,p,q,t⟩:=a;have a:=d.block (g.block _ d.lt (by simp;omega));exact⟨c.block (g.block _ c.lt (by simp;omega)),a,a.lt⟩
theorem Jl{n r:Nat}{s:aq}{t0:fY}{d c:List fY}{w wr w1:ag}{b e m:Nat}{v A:au}{l:List (Tm (n+1))}(q:Dx t0.2=true)(i:JL n r s d w b e v wr l c)(p:zZ (s.extract b e)=false)(R:mE (n+1) s r c (wr.drewN m) w1 A false)(z:au):mE (n+2) s r (t0::d) (w.alloc (.cells #[ab 0,ab 0,af ⟨#[]⟩,ae none 0 0] 31)) w1 z false:=by
 obtain⟨B,j,k,C,D,E,F,G,o⟩:=i;obtain⟨h,f,g,y,t,u,_,x⟩:=R;refine⟨ci k (ci (fe wr m _) h),f,g,y,t,u,by simp,λ_ a=>?_⟩;simp only[Dw,q,dj];rw[o a,CO _ _ _ (j.no p)];exact x rfl (a+1)
theorem F7{n:Nat}:(l:List (Tm n))->(a r:List fY)->Fv (Is n) l a r->l.length+r.length<=a.length
 | [],a,r,h=>by have e:a=r:=h;subst e;simp
 | x::l,a,r,h=>by
  obtain⟨m,b,c⟩:=h;have d:=F7 l m r c;have f:=uE n x a m b;have g:0<(aC n x).length:=by
   cases n with
   | zero=>exact b.elim
   | succ n=>simp[aC]
  simp only[bA];omega
theorem N4{n r:Nat}{s:aq}{h o:List fY}{w wr w1:ag}{b e m:Nat}{a:ar}{L c:Nat}{l:List (Tm (n+1))}(F:r<w.heap.size)(q:JL n r s h w b e (ae a L c) wr l o)(g:(wr.drewN m).grownBy w1 (some r))(E:h.length<=2048):l.length=L/\L<=2048/\∀d f,((w1.alloc d).alloc f).ownsRow (w.heap.size+2) 31 4 (ae a L c) L (cO (l.map (gK (n+1)))):=by
 obtain⟨x,y,z,k,A,B,t,C,D⟩:=q;have p:wr.grownBy w1 (some r):=ci (fe wr m _) g;obtain⟨u,v,ev,_⟩:=k.tup;injection ev with _ i _;have:=F7 l h o t;have j:=(k.kept p (by omega)).1;rw[<-i]at j;exact⟨i.symm,by omega,λd f=>(j.alloc d).alloc f⟩
theorem Jm{n r:Nat}{s:aq}{S y:List fY}{w wr w1 f:ag}{b e m:Nat}{a:ar}{L c:Nat}{l:List (Tm (n+1))}(am:r<w.heap.size)(D:JL n r s S w b e (ae a L c) wr l y)(ai:zZ (s.extract b e)=false){k z:Int}{t:aq}{p:ar}{v q:Nat}(R:mE (n+1) s r y (wr.drewN m) w1 (.agg #[ab k,ab z,af t,ae p v q]) true){O P:Obj}{g h:Nat}(ah:l.length=L)(I:f.ownsRow (w.heap.size+2) 31 4 (ae (some ⟨g,0,none⟩) (L+1) h) (L+1) (cO (l.map (gK (n+1)))++ [ab k,ab z,af t,ae p v q]))(u:((w1.alloc O).alloc P).grownBy f (Value.slice a L c).ownBlock)(aj:(Value.slice a L c).ownBlock=some g\/g=w1.heap.size+2):(Bx (w.heap.size+1) (ab 4) (ab 0) (af ⟨#[]⟩) (ae a L c) f/\ ∃i j,MF n r s S w i j (ae (some ⟨g,0,none⟩) (L+1) h) (f.setCell ⟨w.heap.size+1,3,none⟩ (ae (some ⟨g,0,none⟩) (L+1) h))/\Qa r s (f.setCell ⟨w.heap.size+1,3,none⟩ (ae (some ⟨g,0,none⟩) (L+1) h))<Qa r s wr):=by
 subst ah;obtain⟨av,aw,aH⟩:=zb am D R.1;obtain⟨X,E,Y,F,aD,Z,aa,aE,ad⟩:=D;obtain⟨W,i,j,T,ao,M,ap,_⟩:=R;have C:wr.grownBy w1 (some r):=ci (fe wr m _) W;obtain⟨⟨x,o,U,ax,ay⟩,az⟩:=ap rfl;have H:∀b,(Value.slice a l.length c).ownBlock=some b->w.heap.size+2<=b:=λb e=>(F.1.lt b e).1;have ak:uk (gK (n+1) x)=[ab k,ab z,af t,ae p v q]:=by
  have V:dG (n+1) x=.agg (uk (gK (n+1) x)).toArray:=rfl;rw[V]at o;injection o with o;exact Array.toList_inj.2 o
 rw[<-ak]at I;have K:=F.snoc C (by omega) ax ay (by have:=Z.lt;simp;omega) (w1:=(w1.alloc O).alloc P) (gi (gi (fe w1 0 _) _) _) I u (by simpa using aj);have al:∀d,d<w.heap.size+2->some d≠(Value.slice a l.length c).ownBlock:=λd J e=>by have:=H d e.symm;omega
 have A:∀d,d<w.heap.size+2->f.heap[d]?=w1.heap[d]? :=λd J=>(u.block d (by simp;omega) (al d J)).trans ((gd _ _ (by simp;omega)).trans (gd _ _ (by omega)));have Q:=aw.block (A (w.heap.size+1) (by omega));have au:Rd r s i j f:=ao.block (A r (by omega));have aB:f.heap.size=(f.setCell ⟨w.heap.size+1,3,none⟩ (ae (some ⟨g,0,none⟩) (l.length+1) h)).heap.size:=by simp[World.setCell]
 have N:=au.far (g:=w.heap.size+1) (by omega) 3 (ae (some ⟨g,0,none⟩) (l.length+1) h);have aF:=uE (n+1) x y T U;have aG:0<(aC (n+1) x).length:=by simp[aC]
 refine⟨Q,i,j,⟨l++ [x],T,N,M,?_,?_,?_,Q.set3 _,aa.snoc U,by omega,λB=>?_⟩,?_⟩
 ·refine nb (Ij (gi (gi (ci Y C) _) _) u λb G=>?_) (by simp) _ _;have:=H b G;simp;omega
 ·refine⟨ownsRow_setCell_below (by simpa using K.1) (by simp) _,λaA an=>?_⟩;obtain⟨y1,y2⟩:=K.2 aA an;refine⟨?_,y2⟩;rw[<-aB];exact In.off (λb G=>fu _ _ _ _ (by simp;omega)) y2 y1
 ·exact(av.block (A w.heap.size (by omega))).block (fu _ _ _ _ (by simp))
 ·rw[ad B,CO _ _ _ (E.no ai)];exact az (B+1)
 ·rw[K4 N M,K4 X E];omega
theorem Hi(w:ag)(o:Obj)(v0 v1 v2 v3:au)(e:TypeId):∀(j:Nat)(a:au),[v0,v1,v2,v3][j]?=some a->((w.alloc o).alloc (.cells #[v0,v1,v2,v3] e)).cell? ((⟨w.heap.size+1,0,none⟩:Addr).add j)=some a:=by
 intro j a b;rw[fG];rw[World.cell?_alloc_at _ _ _ _ (by simp)];simpa using b
theorem Ky(k d:Int)(t:aq)(a:ar)(l c:Nat):∀v∈[Value.int .i64 k,ab d,af t,ae a l c],v.oneCell'=true:=by
 intro v b;simp at b;rcases b with rfl|rfl|rfl|rfl<;>rfl
theorem Fj(n:Nat)(ih:Ol n)(r:Nat)(s:aq)(b e:Nat)(t0:fY)(y:List fY)(w:ag)(G:Rd r s b e w)(Q:At s b e (t0::y))(E:s.size<=2048)(U:y.length<=n)(V:Dx t0.2=true):ao 108 #[aH r] w λg w'=>MD (n+2) s r (t0::y) w w' g:=by
 have p:=G.lt;obtain⟨az,T,X,Y,Z⟩:=bY gO;have B:=ap (⟨T,X,Y,Z⟩:_/\_/\_/\_);clear T X Y Z;have d:=ap (⟨G,Q,E,U,V⟩:_/\_/\_/\_/\_);have ak:=ap ih;clear G Q U V ih;go_enter func108,ntmps108;go_wp2_with (go_at_call 68;refine(rY r s b e _ ((d.1.alloc _).alloc _) d.2.1.2.1 E).mono ?_;rintro g ai ⟨rfl,j⟩);go_loopw [] (λwr=>∃(b e:Nat)(D:ar)(q c:Nat),Hid (MF n r s y w b e (ae D q c) wr)/\True) (λwr=>Qa r s wr)
 case atStart=>exact⟨_,_,_,_,_,Jn d.1 d.2.1 j.1 j.2,trivial⟩
 case round=>
  obtain⟨f,h,D,q,c,P,_⟩:=hrel;clear j;obtain⟨l,I,i⟩:=P.out;replace i:=ap i;obtain⟨x,aa⟩:∃x,s.extract f h=x:=⟨_,rfl⟩;have C:=ap aa;clear aa;have a:Hid (Rd r s f h wr/\At s f h I/\I.length<=n/\y.length<=2048):=by
   obtain⟨m,o,H,aL,aM,aN,aO,au,aP⟩:=i.out;refine⟨m,o,aF au d.2.2.2.1,?_⟩;have:=mB s (s.size-e) e (av _);rw[<-d.out.2.1.cons.2.1]at this;omega
  cases hc:(x.toList==[41])
  ·have aQ:(x.toList=[41])=False:=by simpa using hc
   have aR:(x.toList !=[41])=true:=by simpa using hc
   have O:Hid (zZ (s.extract f h)=false):=by rw[C.out];exact hc
   go_wp2_with (first
    | (go_at_call 70;refine(pG r s f h x wr a.1 a.2.1.1 a.2.1.2.1 C).mono ?_;rintro g ai ⟨rfl,u,rfl⟩)
    | (go_at_call 69;refine(ak r s f h I (wr.drewN u) (a.1.drew u) a.2.1 E a.2.2.1).mono ?_;rintro g F ⟨k,aG,t,al,aE,an,ok,rfl,A⟩;obtain⟨ad,ah,aS⟩:=zb p i A.1;have aw:w.heap.size<F.heap.size:=(by omega);obtain⟨⟨J,K,L,M⟩,f0,f1,f2,f3⟩:=ad.cells;obtain⟨⟨y0,y1,y2,aI⟩,aA,aB,aC,aD⟩:=ah.cells;clear ad ah;cases ok)
    | (at_builtin;have z:=ap (N4 p i A.1 a.2.2.2);refine wpList_append_lies _ rfl _ _ 29 rfl (w.heap.size+2) 31 az _ 4 56 underlying29 B.1 B.2.1 B.2.2.1 B.2.2.2 rfl (by decide) _ q _ rfl (z.2.2 _ _) ⟨F.heap.size+1,0,none⟩ 1 1 [ab k,ab aG,af t,ae al aE an] rfl rfl (Hi _ _ _ _ _ _ _) (Ky _ _ _ _ _ _) (by decide) (by have:=z.2.1;unfold maxLen;omega) (by have:=z.2.1;omega) (by simp;omega) (F.heap.size+2) (by simp) ?_;intro aK aJ aX W S R ax;have N:=ap (Jm p i O A z.1 W S R);obtain⟨⟨aY,aZ,a0,a1⟩,aT,aU,aV,aW⟩:=N.out.1.cells;clear W S R ax))
   ·exact ay (v:=.tuple #[.agg #[ab 0,ab 0,af ⟨#[]⟩,ae none 0 0],.bool false]) (by simp[results,results108,go_sem,J,K,L,M,aw]) rfl ⟨0,0,⟨#[]⟩,none,0,0,false,rfl,(mE.box p (Jl d.2.2.2.2 i O A _) _ _ _ _).alloc _⟩
   ·obtain⟨am,g,m,o⟩:=N.2;go_roundw
    case rel=>exact⟨am,g,_,_,_,m,trivial⟩
    case measure=>exact o
  ·go_wp2_with (first
     | (go_at_call 70;refine(pG r s f h x wr a.1 a.2.1.1 a.2.1.2.1 C).mono ?_;rintro g ai ⟨rfl,u,rfl⟩)
     | (go_at_call 68;refine(rY r s f h (wr.drewN u) (a.1.drew u) a.2.1.2.1 E).mono ?_;rintro g F ⟨rfl,j⟩;obtain⟨m,o,H⟩:=Jk p d.2.2.2.2 P (by rw[C.out];exact hc) j.1 j.2;obtain⟨⟨J,K,L,M⟩,f0,f1,f2,f3⟩:=o.cells;obtain⟨⟨y0,y1,y2,aI⟩,aA,aB,aC,aD⟩:=H.cells;have aj:=ap (mE.box p m);clear m o H))
   exact ay (v:=.tuple #[.agg #[ab 4,ab 0,af ⟨#[]⟩,ae D q c],.bool true]) (by simp[results,results108,go_sem,J,K,L,M]) rfl ⟨4,0,⟨#[]⟩,D,q,c,true,rfl,aj _ _ _ _⟩
theorem KQ{x:aq}(a:x.toList=[]):fV x=false:=by
 rw[cI]at a;have b:x.size=0:=by
  have:x.data.toList.length=x.size:=by simp
  rw[a]at this;exact this.symm
 simp[fV,cI,fo,a,b]
theorem mE.undrew{n r:Nat}{s:aq}{a:List fY}{w w1:ag}{m:Nat}{v:au}{ok:Bool}(b:mE n s r a (w.drewN m) w1 v ok):mE n s r a w w1 v ok:=by
 obtain⟨c,d⟩:=b;exact⟨ci (fe w m _) c,d⟩
theorem KR{n r:Nat}{s:aq}{b e:Nat}{d:List fY}{w w1 w2:ag}{x:aq}(a:At s b e d)(h:s.extract b e=x)(z:s.size<=2048)(i:Dx x=false){k f:Int}{t:aq}(c:fV x=true)(u:(k,f,t)=lR x)(A:t.size<=x.size)(p:dN k)(q:dN f){o:Obj}(m:am w w1)(v:Rd r s (ed s e) (eT s e) w2)(g:(w1.alloc o).grownBy w2 (some r)):mE (n+1) s r d w w2 (.agg #[ab k,ab f,af t,ae none 0 0]) true:=by
 have B:x.size<=2048:=by rw[<-h];simp;have:=a.2.1;omega
 refine⟨ci (gi (oM (g8 w _) m) o) g,ed s e,eT s e,km s e,v,At.next a.2.1,λ_=>?_,by simp⟩;cases d with
 | nil=>
  have:=a.nil;rw[h]at this;rw[KQ this]at c;exact absurd c (by simp)
 | cons t0 d=>
  obtain⟨j,l,_⟩:=a.cons;subst j l;rw[h];refine⟨⟨((k,f,t),(none,0),[]),rfl,⟨_,_,rfl,aj ⟨i,c,u,rfl,rfl⟩⟩,⟨⟨p,q,by unfold maxLen;simp only;omega,aM _,aM _⟩,aj rfl⟩,aj rfl⟩,λy=>?_⟩;simp only[Dw,i,c];simp
theorem Ns{n r:Nat}{s:aq}{b e:Nat}{a:List fY}{w w1:ag}{x:aq}(d:At s b e a)(k:s.extract b e=x)(j:Dx x=false)(i:fV x=false)(c:Rd r s b e w)(f:am w w1)(v:au):mE (n+1) s r a w w1 v false:=by
 refine⟨oM (g8 w _) f,b,e,a,c.block (f.block r c.lt),d,by simp,λ_ l=>?_⟩;cases a with
 | nil=>rfl
 | cons t0 a=>
  obtain⟨g,h,_⟩:=d.cons;subst g h;simp only[Dw,k,j,i];simp[Lp]
theorem GJ{w w1:ag}{m:Nat}(a:Below (w.drewN m).heap.size (w.drewN m) w1):am w w1:=⟨a.os,a.tape,a.output,a.size,a.block⟩
theorem vh{w w2:ag}{r:Nat}{v0 v1 v2 v3:au}(a:r<w.heap.size)(g:(w.alloc (.cells #[v0,v1,v2,v3] 31)).grownBy w2 (some r)):Bx w.heap.size v0 v1 v2 v3 w2:=
 (Bx.new w v0 v1 v2 v3).block (g.block _ (by simp) (by simp;omega))
theorem yW(n:Nat)(r:Nat)(s:aq)(b e:Nat)(o:List fY)(w:ag)(j:Rd r s b e w)(D:At s b e o)(E:s.size<=2048)(ih:∀w':ag,Rd r s b e w'->Dx (s.extract b e)=true->ao 108 #[aH r] w' λc S=>MD (n+1) s r o w' S c):ao 69 #[aH r] w λc w'=>MD (n+1) s r o w w' c:=by
 have g:=j.lt;have a:=ap (⟨j,D⟩:_/\_);have O:=ap ih;clear j D ih;obtain⟨x,l⟩:∃x,s.extract b e=x:=⟨_,rfl⟩;have f:=ap l;have R:x.size<=2048:=by rw[<-l];simp;have:=a.2.2.1;omega
 clear l;cases hc:(x.toList==[40])
 ·have X:(x.toList=[40])=False:=by simpa using hc
  have Y:(x.toList !=[40])=true:=by simpa using hc
  go_enter func69,ntmps69
  go_wp2_with (first
   | (go_at_call 70;refine(pG r s b e x _ (a.1.alloc _) a.2.1 a.2.2.1 f).mono ?_;rintro c L ⟨rfl,m,rfl⟩)
   | (go_at_call 70;refine(pG r s b e x _ ((a.1.alloc _).drew m) a.2.1 a.2.2.1 f).mono ?_;rintro c L ⟨rfl,ai,rfl⟩)
   | (go_at_call 109;refine(IJ x _ R).mono ?_;rintro c p ⟨⟨k,d,t,ok,rfl,A⟩,HB⟩;replace HB:=GJ HB;obtain⟨⟨q,u,y,z⟩,f0,f1,f2,f3⟩:=zw HB;have P:w.heap.size<p.heap.size:=(by have:=HB.size;simp at this;omega);have Q:r<p.heap.size:=(by omega);replace HB:=ap HB;cases ok)
   | (go_at_call 68;refine(rY r s b e _ ((((a.1.alloc _).block (HB.block r (by simp;omega)))).alloc _) a.2.2.1 E).mono ?_;rintro c an ⟨rfl,h⟩;have N:=ap (ci (gi (oM (g8 _ _) HB) _) h.2);obtain⟨⟨T,U,V,W⟩,aj,ak,al,am⟩:=(vh g N).cells;obtain⟨⟨y0,y1,y2,ar⟩,Z,aa,ad,ah⟩:=(vh Q h.2).cells;obtain⟨G,H,I,J,K⟩:=A.out;have M:=ap (mE.box g (KR (n:=n) a.2 f E hc G.symm (H (by trivial)) I J K HB h.1 h.2));clear G H I J K))
  ·exact ay (v:=.tuple #[.agg #[ab k,ab d,af t,ae none 0 0],.bool false]) (by simp[results,results69,go_sem,q,u,y,z,P]) rfl ⟨k,d,t,none,0,0,false,rfl,(mE.box g (Ns a.2 f hc A.1.symm (a.1.alloc _) HB _) _ _ _ _).alloc _⟩
  ·exact ay (v:=.tuple #[.agg #[ab k,ab d,af t,ae none 0 0],.bool true]) (by simp[results,results69,go_sem,T,U,V,W]) rfl ⟨k,d,t,none,0,0,true,rfl,M _ _ _ _⟩
 ·go_enter func69,ntmps69
  go_wp2_with (first
   | (go_at_call 70;refine(pG r s b e x _ (a.1.alloc _) a.2.1 a.2.2.1 f).mono ?_;rintro c L ⟨rfl,m,rfl⟩)
   | (go_at_call 108;refine(O _ ((a.1.alloc _).drew m) (by rw[f.out];exact hc)).mono ?_;rintro c p ⟨k,d,t,B,F,C,ok,rfl,i⟩;replace i:=ap i.undrew;obtain⟨⟨q,u,y,z⟩,f0,f1,f2,f3⟩:=(vh g i.1).cells))
  exact ay (v:=.tuple #[.agg #[ab k,ab d,af t,ae B F C],.bool ok]) (by simp[results,results69,go_sem,q,u,y,z]) rfl ⟨k,d,t,B,F,C,ok,rfl,mE.box g i _ _ _ _⟩
theorem IL(n:Nat):Ol n:=by
 induction n with
 | zero=>
  intro g h b d c k j a f l;refine yW 0 g h b d c k j a f λm _ e=>?_;have i:c=[]:=bL (by omega);subst i;simp[Dx,a.nil]at e
 | succ n ih=>
  intro g h b d c k j a f l;refine yW (n+1) g h b d c k j a f λm o e=>?_;cases c with
  | nil=>simp[Dx,a.nil]at e
  | cons t c=>
   have i:=a.cons.1;refine Fj n ih g h b d t c m o a f (by simp at l;omega) ?_;rw[i];exact e
def oZ:au:=.agg #[ab 0,ab 0,af ⟨#[]⟩,ae none 0 0]
def QC(s:aq)(w w':ag)(v:au)(pos a:Int):Prop:=
 (2048<s.size/\v=oZ/\pos=0/\a=2)\/(∃b:Nat,s.size<=2048/\Dw s.size (km s 0) 0=some b/\v=oZ/\pos=b/\a=3)\/
  (s.size<=2048/\Dw s.size (km s 0) 0=none/\∃(n:Nat)(x:Tm n),Is n x (km s 0) []/\In w'.heap.size w' n x/\cD (λc=>w.heap.size<=c) n x/\pos=0/\a=bJ n x/\((bJ n x≠0/\v=oZ)\/(bJ n x=0/\v=dG n x)))
def QB(s:aq)(w w':ag)(e:Ending):Prop:=
 ∃(k d:Int)(t:aq)(a:ar)(l c:Nat)(pos b:Int),e=.returned (.tuple #[.agg #[ab k,ab d,af t,ae a l c],ab pos,ab b])/\
  Hid (QC s w w' (.agg #[ab k,ab d,af t,ae a l c]) pos b/\am w w')
theorem wL{w:ag}{q b:Nat}(a:b≠q)(v0 v1 v2 v3:au):((((w.setCell ⟨q,0,none⟩ v0).setCell ⟨q,1,none⟩ v1).setCell ⟨q,2,none⟩ v2).setCell ⟨q,3,none⟩ v3).heap[b]?=w.heap[b]? :=by
 rw[fu _ _ _ _ (by simpa using a),fu _ _ _ _ (by simpa using a),fu _ _ _ _ (by simpa using a),fu _ _ _ _ (by simpa using a)]
theorem yM{w:ag}{q:Nat}(v0 v1 v2 v3:au):((((w.setCell ⟨q,0,none⟩ v0).setCell ⟨q,1,none⟩ v1).setCell ⟨q,2,none⟩ v2).setCell ⟨q,3,none⟩ v3).heap.size=w.heap.size:=by simp[World.setCell]
theorem IB{s:aq}{w w2 a:ag}(g:((w.alloc (.cells #[ab 0,ab 0,af ⟨#[]⟩,ae none 0 0] 31)).alloc (.cells #[af s,ab 0,ab 0] 146)).grownBy w2 (some (w.heap.size+1)))(b:w2.grownBy a (some (w.heap.size+1))):Bx w.heap.size (ab 0) (ab 0) (af ⟨#[]⟩) (ae none 0 0) a/\w.heap.size+1<a.heap.size/\am w a/\w.heap.size+2<=w2.heap.size:=by
 have c:=ci g b;have e:=g.size;have h:=b.size;simp at e;refine⟨((Bx.new w _ _ _ _).block (gd _ _ (by simp))).block (c.block _ (by simp;omega) (by simp)),by omega,?_,by omega⟩;exact((aS _ _).alloc (by simp) _).grown c (by simp;omega) (λf d=>by simp at d;omega)
theorem In.drewN{B:Nat}{w:ag}{n:Nat}{x:Tm n}(m:Nat){P:aO}(k:cD P n x)(a:In B w n x):In B (w.drewN m) n x:=In.off (w:=w) (w':=w.drewN m) (λ_ _=>rfl) k a
theorem Lh{s:aq}{w w2 c:ag}{v:au}{b e:Nat}{a:List fY}{x:aq}(A:s.extract b e=x)(z:(x.toList==[])=true)(D:s.size<=2048)(r:At s b e a)(E:w.heap.size+2<=w2.heap.size)(l:(∃x:Tm 2049,dG 2049 x=v/\Is 2049 x (km s 0) a/\In c.heap.size c 2049 x/\cD (λq=>w2.heap.size<=q) 2049 x)/\∀d,Dw s.size (km s 0) d=kw s.size a d)(o:Obj)(m:Nat):∃y:Tm 2049,v=dG 2049 y/\Is 2049 y (km s 0) []/\In ((c.alloc o).drewN m).heap.size ((c.alloc o).drewN m) 2049 y/\cD (λq=>w.heap.size+2<=q) 2049 y/\(aC 2049 y).length<=2097152/\Dw s.size (km s 0) 0=none:=by
 obtain⟨⟨y,n,h,i,f⟩,p⟩:=l;have j:a=[]:=by
  cases a with
  | nil=>rfl
  | cons t a=>
   have k:=r.cons.2.2;rw[A]at k;have g:x.toList=[]:=by simpa using z
   rw[cI]at g;have:x.data.toList.length=x.size:=by simp
   rw[g]at this;simp at this;omega
 subst j;have B:=uE 2049 y (km s 0) [] h;have g:=mB s s.size 0 (by omega);refine⟨y,n.symm,h,In.drewN m f ((In.off (λb u=>gd c o u.2) (In.offB f i) i).mono (by simp)),f.mono λq C=>by omega,by simp at B;omega,p 0⟩
theorem Lf{w a c:ag}{m:Nat}{v0 v1 v2 v3:au}(d:Bx w.heap.size (ab 0) (ab 0) (af ⟨#[]⟩) (ae none 0 0) a)(b:Below ((a.alloc (.cells #[v0,v1,v2,v3] 31)).drewN m).heap.size ((a.alloc (.cells #[v0,v1,v2,v3] 31)).drewN m) c):Bx w.heap.size (ab 0) (ab 0) (af ⟨#[]⟩) (ae none 0 0) c/\Bx a.heap.size v0 v1 v2 v3 c:=by
 have e:=d.lt;exact⟨(d.block (gd _ _ e)).block (b.block _ (by simp;omega)),(Bx.new a v0 v1 v2 v3).block (b.block _ (by simp))⟩
theorem Lg{s:aq}{b e:Nat}{a:List fY}{x:aq}(g:s.extract b e=x)(d:(x.toList==[])=false)(c:At s b e a)(f:Dw s.size (km s 0) 0=kw s.size a 0):Dw s.size (km s 0) 0=some b:=by
 rw[f,<-c.pos];cases a with
 | nil=>rw[<-g]at d;simp[c.nil]at d
 | cons t a=>rfl
theorem Le{w w4 a:ag}{n:Nat}{y:Tm n}(c:In w4.heap.size w4 n y)(k:cD (λq=>w.heap.size+2<=q) n y)(b:am w4 a)(v0 v1 v2 v3:au):In ((((a.setCell ⟨w.heap.size,0,none⟩ v0).setCell ⟨w.heap.size,1,none⟩ v1).setCell ⟨w.heap.size,2,none⟩ v2).setCell ⟨w.heap.size,3,none⟩ v3).heap.size ((((a.setCell ⟨w.heap.size,0,none⟩ v0).setCell ⟨w.heap.size,1,none⟩ v1).setCell ⟨w.heap.size,2,none⟩ v2).setCell ⟨w.heap.size,3,none⟩ v3) n y:=by
 rw[yM];exact In.off (λq d=>wL (by omega) _ _ _ _) k ((c.below b).mono b.size)
theorem qB{w w1:ag}(a:am w w1)(v0 v1 v2 v3:au):am w ((((w1.setCell ⟨w.heap.size,0,none⟩ v0).setCell ⟨w.heap.size,1,none⟩ v1).setCell ⟨w.heap.size,2,none⟩ v2).setCell ⟨w.heap.size,3,none⟩ v3):=
 ⟨a.os,a.tape,a.output,by rw[yM];exact a.size,λk b=>(wL (by omega) _ _ _ _).trans (a.block k b)⟩
theorem lI{B:Nat}{w w1:ag}(a:Below B w w1)(m:Nat):Below B w (w1.drewN m):=⟨a.os,a.tape,a.output,a.size,a.block⟩
theorem mR{w w1:ag}(a:am w w1)(o:Obj):am w (w1.alloc o):=a.alloc a.size o
theorem IC(s:aq)(w:ag)(S:s.size<=maxLen):ao 39 #[af s] w λe w'=>QB s w w' e:=by
 unfold maxLen at S;by_cases D:2048<s.size
 ·have Q:(2048:Int)<s.size:=by omega
  go_enter func39,ntmps39;go_wp2_with fail;exact ay (v:=.tuple #[oZ,ab 0,ab 2]) (by simp[results,results39,go_sem,oZ]) rfl ⟨0,0,⟨#[]⟩,none,0,0,0,2,rfl,aj ⟨D,rfl,rfl,rfl⟩,by go_grown⟩
 ·have Q:(s.size:Int)<=2048:=by omega
  have i:s.size<=2048:=by omega
  clear D;have P:Hid (Rd (w.heap.size+1) s 0 0 ((w.alloc (.cells #[ab 0,ab 0,af ⟨#[]⟩,ae none 0 0] 31)).alloc (.cells #[af s,ab 0,ab 0] 146))):=by
   have:=aD (w.alloc (.cells #[ab 0,ab 0,af ⟨#[]⟩,ae none 0 0] 31)) (.cells #[af s,ab 0,ab 0] 146);simpa [Hid,Rd]using this
  go_enter func39,ntmps39
  go_wp2_with (first
   | (go_at_call 68;refine(rY (w.heap.size+1) s 0 0 _ P (aM _) i).mono ?_;rintro o U ⟨rfl,B⟩)
   | (go_at_call 69;refine(IL 2048 (w.heap.size+1) s _ _ (km s 0) U B.1 (At.next (aM _)) i (aF (mB s s.size 0 (by omega)) (by omega))).mono ?_;rintro o V ⟨k,A,t,y,l,c,ok,rfl,C⟩;obtain⟨q,am,G,H⟩:=IB B.2 C.1;obtain⟨⟨K,L,M,N⟩,f0,f1,f2,f3⟩:=q.cells;have E:w.heap.size<V.heap.size:=(by omega);obtain⟨_,d,o,aA,b⟩:=C;replace b:=ap b;obtain⟨⟨W,X,Y⟩,an,ar⟩:=b.out.1.cells;have HB:=ap (⟨G,H⟩:_/\_);replace q:=ap q;clear G H;obtain⟨x,F⟩:∃x,s.extract d o=x:=⟨_,rfl⟩;have u:=ap F;clear F;cases ok)
   | (go_at_call 70;refine(pG (w.heap.size+1) s d o x _ (b.1.alloc _) b.2.1.1 b.2.1.2.1 u).mono ?_;rintro Z aB ⟨rfl,m,rfl⟩;cases hc:(x.toList==[]))
   | (go_at_call 53;obtain⟨r,p,a⟩:=Lh u hc i b.2.1 HB.2 (b.2.2.1 (by trivial)) _ m;replace a:=ap a;refine(show Calls _ _ #[.agg #[ab k,ab A,af t,ae y l c]] _ _ from p▸eq 2049 r _ _ a.2.1 (av _) a.2.2.2.1).mono ?_;rintro aa aC ⟨rfl,h⟩;obtain⟨I,J⟩:=Lf q h;obtain⟨⟨y0,y1,y2,O⟩,ad,ah,ai,al⟩:=I.cells;obtain⟨⟨aE,aG,aH,aI⟩,au,aw,ax,az⟩:=J.cells;have n:=ap h;clear I J h;replace p:=ap p;obtain⟨j,g⟩:∃j,bJ 2049 r=j:=⟨_,rfl⟩;rw[g];replace g:=ap g;by_cases z:j=0))
  ·go_region;go_wp2_with fail;have f:=HB.1;exact ay (v:=.tuple #[oZ,ab d,ab 3]) (by simp[results,results39,go_sem,oZ,E,K,L,M,N]) rfl ⟨0,0,⟨#[]⟩,none,0,0,d,3,rfl,ak (aj ⟨d,i,by rw[<-b.out.2.1.pos];exact b.2.2.2 (by trivial) 0,rfl,rfl,rfl⟩),by go_grown⟩
  ·go_region;go_wp2_with fail;have f:=HB.1;exact ay (v:=.tuple #[oZ,ab d,ab 3]) (by simp[results,results39,go_sem,oZ,E,K,L,M,N]) rfl ⟨0,0,⟨#[]⟩,none,0,0,d,3,rfl,ak (aj ⟨d,i,Lg u hc b.2.1 ((b.2.2.1 (by trivial)).2 0),rfl,rfl,rfl⟩),qB (lI (mR f _) _) _ _ _ _⟩
  ·have f:=HB.1;have h:=n.out;exact ay (v:=.tuple #[.agg #[ab k,ab A,af t,ae y l c],ab 0,ab 0]) (by simp[results,results39,go_sem,y0,y1,y2,O]) rfl ⟨k,A,t,y,l,c,0,0,rfl,ak (ak ⟨i,a.2.2.2.2,2049,r,a.1,Le a.2.1 a.2.2.1 n _ _ _ _,a.2.2.1.mono (λT R=>by omega),rfl,(g.trans z).symm,ak ⟨g.trans z,p⟩⟩),qB ((lI (mR f _) m).trans (h.mono (lI (mR f _) m).size)) _ _ _ _⟩
  ·have f:=HB.1;have h:=n.out;exact ay (v:=.tuple #[oZ,ab 0,ab j]) (by simp[results,results39,go_sem,oZ,y0,y1,y2,O]) rfl ⟨0,0,⟨#[]⟩,none,0,0,0,j,rfl,ak (ak ⟨i,a.2.2.2.2,2049,r,a.1,Le a.2.1 a.2.2.1 n _ _ _ _,a.2.2.1.mono (λT R=>by omega),rfl,g.symm,aj ⟨by rw[g.out];exact z,rfl⟩⟩),qB ((lI (mR f _) m).trans (h.mono (lI (mR f _) m).size)) _ _ _ _⟩
def Pf{a:Type}(f:a->List fY->Option (List fY)):List a->List fY->Option (List fY)
 | [],ts=>some ts
 | x::l,ts=>(f x ts).bind (Pf f l)
def QQ:(n:Nat)->Tm n->List fY->Option (List fY)
 | 0,_,_=>none
 | _+1,_,[]=>none
 | n+1,x,t::ts=>if Dx t.2=true then if x.1=(4,0,⟨#[]⟩)then (Pf (QQ n) x.2.2 ts).bind λr=>match r with
    | []=>none
    | c::r=>if zZ c.2=true then some r else none else none
  else if fV t.2=true/\x.1=lR t.2/\x.2.2.length=0 then some ts else none
theorem F0{b:Type}{f:b->List fY->Option (List fY)}{g:b->List fY->List fY->Prop}(c:∀x a r,f x a=some r->g x a r):(l:List b)->∀{a r:List fY},Pf f l a=some r->Fv g l a r
 | [],a,r,e=>by
  have e:some a=some r:=e;exact az e
 | x::l,a,r,e=>by
  obtain⟨m,d,h⟩:=bI.1 e;exact⟨m,c x a m d,F0 c l h⟩
theorem vJ:(n:Nat)->(x:Tm n)->(e r:List fY)->QQ n x e=some r->Is n x e r
 | 0,_,_,_,h=>by cases h
 | _+1,_,[],_,h=>by cases h
 | n+1,x,t::e,r,h=>by
  unfold QQ at h;refine⟨t,e,rfl,?_⟩;by_cases d:Dx t.2=true
  ·rw[if_pos d]at h;by_cases g:x.1=(4,0,⟨#[]⟩)
   ·rw[if_pos g]at h;obtain⟨m,i,a⟩:=bI.1 h;cases m with
    | nil=>cases a
    | cons c m=>
     simp only at a;by_cases f:zZ c.2=true
     ·rw[if_pos f]at a;obtain rfl:=az a;exact ak ⟨d,g,c,F0 (vJ n) x.2.2 i,f⟩
     ·rw[if_neg f]at a;cases a
   ·rw[if_neg g]at h;cases h
  ·rw[if_neg d]at h;by_cases b:fV t.2=true/\x.1=lR t.2/\x.2.2.length=0
   ·rw[if_pos b]at h;exact aj ⟨by simpa using d,b.1,b.2.1,bL b.2.2,(az h).symm⟩
   ·rw[if_neg b]at h;cases h
def o7(s:aq)(n:Nat)(y:Tm n):Prop:=s.size<=2048/\Dw s.size (km s 0) 0=none/\Is n y (km s 0) []
theorem Cr{s:aq}{n:Nat}{y:Tm n}(i:o7 s n y)(u:bJ n y=0)(w:ag):ao 39 #[af s] w λe w'=>∃(m:Nat)(x:Tm (m+1)),e=.returned (.tuple #[.agg #[ab x.1.1,ab x.1.2.1,af x.1.2.2,ae x.2.1.1 x.2.2.length x.2.1.2],ab 0,ab 0])/\Hid (aB (m+1) x n y=true/\In w'.heap.size w' (m+1) x/\cD (λq=>w.heap.size<=q) (m+1) x/\am w w'):=by
 obtain⟨j,o,p⟩:=i;refine(IC s w (aF j (by unfold maxLen;omega))).mono ?_;rintro e w' ⟨k,E,t,B,l,c,pos,C,rfl,h⟩;obtain⟨z,r⟩:=h;rcases z with⟨a,_⟩|⟨D,_,a,_⟩|⟨_,_,m,x,A,f,v,rfl,rfl,b⟩
 ·omega
 ·rw[o]at a;cases a
 ·have g:=(Is.one m n x y _ _ _ A p).1;have d:bJ m x=0:=by
   rw[IV m n x y g];exact u
  rcases b with⟨a,_⟩|⟨_,b⟩
  ·exact absurd d a
  ·cases m with
   | zero=>exact f.elim
   | succ m=>
    rw[d,b];exact⟨m,x,rfl,g,f,v,r⟩
def L9:aq:=⟨#[40,99,111,100,101,32,40,98,101,104,32,99,111,117,110,116,32,40,111,110,32,36,48,32,40,117,112,32,36,49,41,32,40,41,32,40,97,100,100,32,36,48,32,36,49,41,41,32,40,111,110,32,36,48,32,40,97,115,107,32,36,49,41,32,40,40,115,101,110,100,32,36,49,32,40,104,97,118,101,32,36,48,41,41,41,32,36,48,41,32,40,111,110,32,95,32,102,111,114,107,32,40,40,115,112,97,119,110,32,99,111,117,110,116,32,48,32,36,48,41,32,40,108,105,110,107,32,36,48,41,32,40,115,101,110,100,32,36,48,32,40,117,112,32,55,41,41,41,32,49,41,32,40,111,110,32,95,32,115,116,111,112,32,40,40,115,116,111,112,41,41,32,48,41,32,40,111,110,32,95,32,98,97,100,32,40,41,32,40,97,100,100,32,97,32,97,41,41,41,41]⟩
def QV:aq:=⟨#[40,117,112,32,51,41]⟩
def PA:aq:=⟨#[102,111,114,107]⟩
def Qh:aq:=⟨#[98,97,100]⟩
theorem N5:o7 L9 7 (cm 1 gg):=⟨by decide,by kernel_rfl,vJ _ _ _ _ (by kernel_rfl)⟩
theorem Qi:o7 QV 13 we:=⟨by decide,by kernel_rfl,vJ _ _ _ _ (by kernel_rfl)⟩
theorem N6:o7 PA 13 (bw ua 12):=⟨by decide,by kernel_rfl,vJ _ _ _ _ (by kernel_rfl)⟩
theorem PB:o7 Qh 13 (bw Di 12):=⟨by decide,by kernel_rfl,vJ _ _ _ _ (by kernel_rfl)⟩
theorem qZ:bJ 7 (cm 1 gg)=0/\bJ 13 we=0/\bJ 13 (bw ua 12)=0/\bJ 13 (bw Di 12)=0:=⟨by kernel_rfl,by kernel_rfl,by kernel_rfl,by kernel_rfl⟩
def Fu(base:Nat)(a:ar)(d:List (aq×Int×Int×Tc))(w:ag):Prop:=
 (d=[]\/∃c,a=some ⟨c,0,none⟩/\base<=c/\c<w.heap.size/\∀e b,d[e]?=some b->∀(t:Nat)(f:au),(DR b)[t]?=some f->w.cell? ⟨c,e*7+t,none⟩=some f)/\∀b∈d,(In w.heap.size w 13 b.2.2.2/\cD (λg=>base<=g) 13 b.2.2.2)/\nR b.2.2.2
def uX(a:ar)(L c:Nat):Prop:=(a=none/\L=0/\c=0)\/((∃g,a=some ⟨g,0,none⟩)/\L<=c)
def JC(e:aq×Int×Int×Tc):aq×Int×Int×Tc:=(e.1,e.2.1,e.2.2.1,cn 13 e.2.2.2)
theorem GW(xa:ar)(xc:Nat)(w:ag):PQ 0 0 ⟨#[]⟩ xa 0 xc sH w:=λW h=>by
 refine(sU 12 0 0 ⟨#[]⟩ xa 0 xc [] W (by decide) λw1 c=>?_).mono ?_
 ·refine(mh xa xc w1).mono ?_;rintro e w' ⟨rfl,rfl⟩;exact⟨none,0,[],rfl,aA _ _,rfl,av _,aM _,rfl,aj rfl⟩
 ·rintro e w' ⟨a,b,l,rfl,H⟩;obtain⟨c,d,g,f,_⟩:=H;obtain rfl:l=[]:=bL d;exact⟨0,0,⟨#[]⟩,a,0,b,rfl,c,((0,0,⟨#[]⟩),(a,b),[]),⟨rfl,rfl,rfl⟩,⟨⟨⟨show dN 0 by unfold dN;decide,show dN 0 by unfold dN;decide,show (0:Nat)<=maxLen from aM _,aM _,f⟩,aj rfl⟩,aj rfl⟩,rfl,ak ⟨rfl,rfl⟩⟩
theorem O5{x:Tc}{w:ag}(d:In w.heap.size w 13 x)(a:nR x):PQ x.1.1 x.1.2.1 x.1.2.2 x.2.1.1 x.2.2.length x.2.1.2 (cn 13 x) w:=by
 rcases a with a|⟨b,c⟩
 ·exact kO d a
 ·obtain⟨⟨g,h,i⟩,⟨e,f⟩,j⟩:=x;simp only[eH]at b c;obtain⟨rfl,rfl,rfl⟩:=b;subst c;exact GW e f w
theorem M9(l:List (aq×Int×Int×Tc)):∀b∈l.flatMap DR,b.oneCell'=true:=λb c=>by
 obtain⟨e,_,a⟩:=iw.1 c;simp only[DR,cY,gX,hU]at a;rcases a with rfl|rfl|rfl|rfl|rfl|rfl|rfl<;>rfl
section
variable {p:lG} {s:Sy} {d:gE} {w:ag}
theorem bC.eventsF(C:bC p s d w)(a9:d.es.length<=100000):ao 29 #[aH p.b,ab 0] w λe w'=>∃a c,e=.returned (ae a d.es.length c)/\Hid (am w w'/\uX a d.es.length c/\∃al,al.length=d.es.length/\al.map JC=s.evs/\Fu w.heap.size a al w'):=by
 obtain⟨I,E,ax,aW,aB⟩:∃I E,d.ev=ae I d.es.length E/\d.es.length<=E/\(I=none/\d.es.length=0/\E=0\/∃g,I=some ⟨g,0,none⟩):=by
  rcases C.evr.1.2 with⟨e,R⟩|⟨g,c,ap,e,_,_,k,_⟩
  ·exact⟨none,0,by rw[e,R],by omega,aj ⟨rfl,R,rfl⟩⟩
  ·exact⟨_,c,e,k,ak ⟨g,rfl⟩⟩
 obtain⟨q,S⟩:∃q:Nat->aq×Int×Int×Tc,∀h,h<d.es.length->d.es[h]?=some (q h):=⟨λh=>d.es.getD h (⟨#[]⟩,0,0,sH),λh D=>by
  simp only[nz,aN D]
  rfl⟩
 have aX:∀j,am w j->∀h,h<d.es.length->In j.heap.size j 13 (q h).2.2.2/\nR (q h).2.2.2:=λj A h D=>by
  have:=(C.later A).evt.2 _ (aL (S h D));exact⟨this.1.1,this.2⟩
 have Y:=C.evr.1;rw[ax]at Y;have aI:ai w p.b 6 (ae I d.es.length E):=by
  have F:=ah C.box 6;simp only[eF,dh,dy]at F;rw[ax]at F;exact F
 refine(Kt p.b I d.es.length E (λh=>(q h).2.2.2.1.1) (λh=>(q h).2.2.2.1.2.1) (λh=>(q h).2.2.2.1.2.2) (λh=>(q h).2.2.2.2.1.1) (λh=>(q h).2.2.2.2.2.length) (λh=>(q h).2.2.2.2.1.2) w
  (λa c h j=>am w j/\uX a d.es.length c/\(d.es.length=0\/∃(g:Nat)(f:Nat->aq×Int×Int×Tc),a=some ⟨g,0,none⟩/\(w.heap.size<=g/\g<j.heap.size)/\(∀o,j.frozen? ⟨g,o,none⟩=false)/\(∀i,i<d.es.length->∀(t:Nat)(n:au),(DR (f i))[t]?=some n->ai j g (i*7+t) n)/\(∀i,i<h->(JC (f i)=JC (q i)/\nR (f i).2.2.2)/\In j.heap.size j 13 (f i).2.2.2/\cD (λr=>w.heap.size<=r/\r≠g) 13 (f i).2.2.2)/\∀i,h<=i->i<d.es.length->f i=q i)) C.lo.2 (by omega) aW aB aI (λj A=>?_) (λa c h j D M=>?_)).mono ?_
 ·rcases aB with⟨rfl,R,rfl⟩|⟨g,rfl⟩
  ·rw[R];refine(Bo 0 j).mono ?_;rintro e w' ⟨rfl,rfl⟩;exact⟨none,0,rfl,aA _ _,A,aj ⟨rfl,rfl,rfl⟩,aj rfl⟩
  ·have y:=Y.lt g rfl;refine(Bp (d.es.flatMap DR) g d.es.length E j Y.1 (M9 _) (by omega) λbg B h n m=>?_).mono ?_
   ·have F:=World.ownsRow.cells Y (g:=g) rfl h n m;have aM:=A.trans (B.mono A.size);exact(aM.cell (p:=(⟨g,0,none⟩:Addr).add h) (by simp only[Addr.add];split<;>exact y.2)).trans F
   ·rintro e w' ⟨bf,rfl,J⟩;obtain⟨z,G⟩:=J.out;obtain⟨a,c,aJ,ar,aw⟩:=sj G (by decide) λQ=>rfl;subst aJ;have O:uX a d.es.length c:=by
     rcases G.2 with⟨v,Z⟩|⟨K,a7,ap,v,_,_,Z,_⟩
     ·injection v with v aD aE;exact aj ⟨v,Z,aE⟩
     ·injection v with v aD aE;exact ak ⟨⟨K,v⟩,by omega⟩
    refine⟨a,c,rfl,z,A.trans (z.mono A.size),O,?_⟩;by_cases L:d.es.length=0
    ·exact aj L
    ·obtain⟨K,v,Z,aD⟩:=aw 0 _ (S 0 (by omega));obtain⟨ap,aO⟩:=eN G K (ar _ v);have ba:=A.size;refine ak ⟨K,q,v,⟨by have:=(G.lt K (ar _ v)).1;omega,Z⟩,λo=>by simp[World.frozen?,aO],λi l t n m=>?_,λi l=>by omega,λ_ _ _=>rfl⟩;obtain⟨a8,H,be,a4⟩:=aw i _ (S i l);rw[v]at H;injection H with H;injection H with H;subst H;exact a4 t n m
 ·obtain⟨B,O,M⟩:=M;rcases M with L|⟨g,f,rfl,y,aC,U,T,N⟩
  ·omega
  have aP:=N h (av _) D;have k:=U h D;rw[aP]at k;refine⟨g,rfl,k 3 _ rfl,k 4 _ rfl,k 5 _ rfl,k 6 _ rfl,?_⟩;obtain⟨a5,a6⟩:=aX j B h D;refine(O5 a5 a6 j (aA _ _)).mono ?_;rintro e w' ⟨y0,y1,y2,ya,yl,yc,rfl,J⟩;obtain⟨z,aF,⟨f1,f2,f3⟩,⟨G,a1⟩,a2,a3⟩:=J.out;have u:∀{o:Nat}{n:au},ai j g o n->ai w' g o n:=λ{o n} r=>(z.cell (p:=⟨g,o,none⟩) y.2).trans r;have P:∀o,w'.frozen? ⟨g,o,none⟩=false:=λo=>(z.frozen (p:=⟨g,o,none⟩) y.2).trans (aC o);refine⟨y0,y1,y2,ya,yl,yc,rfl,⟨P _,P _,P _,P _⟩,⟨u (k 3 _ rfl),u (k 4 _ rfl),u (k 5 _ rfl),u (k 6 _ rfl)⟩,?_⟩;have aR:=oK w' g (h*7+3) (ab y0) (ab y1) (af y2) (ae ya yl yc);have bd:=bG (w:=w') (g:=g) (o:=h*7+3) (ab y0) (ab y1) (af y2) (ae ya yl yc);have W:=yC (ab y0) (ab y1) (af y2) (ae ya yl yc) ⟨u (k 3 _ rfl),u (k 4 _ rfl),u (k 5 _ rfl),u (k 6 _ rfl)⟩;have V:=λo (aT:o<h*7+3\/h*7+3+4<=o)=>Ct (w:=w') (g:=g) (v0:=ab y0) (v1:=ab y1) (v2:=af y2) (v3:=ae ya yl yc) o aT;have aQ:=λo=>(tT (w:=w') (g:=g) (o:=h*7+3) (v0:=ab y0) (v1:=ab y1) (v2:=af y2) (v3:=ae ya yl yc) o).trans (P o);have aU:am w (df w' g (h*7+3) (ab y0) (ab y1) (af y2) (ae ya yl yc)):=dW (B.trans (z.mono B.size)) y.1;generalize df w' g (h*7+3) (ab y0) (ab y1) (af y2) (ae ya yl yc)=an at*;have bb:=z.size;have bc:=B.size;have ay:∀{x:Tc},In w'.heap.size w' 13 x->cD (λr=>w.heap.size<=r/\r≠g) 13 x->In an.heap.size an 13 x/\cD (λr=>w.heap.size<=r/\r≠g) 13 x:=λaY a0=>eJ aR (λr Q aG=>Q.2 aG) ⟨aY,a0⟩;refine⟨aU,O,ak ⟨g,λi=>if i=h then ((q h).1,(q h).2.1,(q h).2.2.1,aF)else f i,rfl,⟨y.1,by omega⟩,aQ,λi l t n m=>?_,λi l=>?_,λi F aK=>?_⟩⟩
  ·have aV:t<7:=by
     have:=(aZ.1 m).1;simpa [DR]using this
   by_cases e:i=h
   ·subst e;simp only[dj]at m;obtain⟨⟨bh,bi,aG⟩,⟨bj,bk⟩,bl⟩:=aF;simp only[eH]at f1 f2;obtain⟨rfl,rfl,rfl⟩:=f1;obtain⟨rfl,rfl⟩:=f2;subst f3
    match t,aV with
    | 0,_=>exact(V _ (by omega)).trans (u (k 0 n m))
    | 1,_=>exact(V _ (by omega)).trans (u (k 1 n m))
    | 2,_=>exact(V _ (by omega)).trans (u (k 2 n m))
    | 3,_=>exact W.1.trans m
    | 4,_=>exact W.2.1.trans m
    | 5,_=>exact W.2.2.1.trans m
    | 6,_=>exact W.2.2.2.trans m
   ·simp only[if_neg e]at m;exact(V _ (by omega)).trans (u (U i l t n m))
  ·by_cases e:i=h
   ·simp only[e,dj];have:=ay G (a1.mono λr Q=>⟨by omega,by omega⟩);refine⟨⟨?_,a3⟩,this.1,this.2⟩;unfold JC;rw[a2]
   ·simp only[if_neg e];obtain⟨aa,ad,ag⟩:=T i (by omega);have:=ay ((ad.below z).mono z.size) ag;exact⟨aa,this.1,this.2⟩
  ·simp only[if_neg (show¬i=h by omega)];exact N i (by omega) aK
 ·rintro e w' ⟨a,c,rfl,J⟩;obtain⟨B,O,M⟩:=J;refine⟨a,c,rfl,B,O,?_⟩;rcases M with L|⟨g,f,rfl,y,aC,U,T,N⟩
  ·have aS:d.es=[]:=bL L;refine⟨[],by rw[L];rfl,?_,aj rfl,λe N=>by cases N⟩;rw[<-C.evt.1,aS];rfl
  ·refine⟨(List.range d.es.length).map f,by simp,?_,ak ⟨g,rfl,y.1,y.2,λi e l t n m=>?_⟩,λe l=>?_⟩
   ·rw[<-C.evt.1];refine List.ext_getElem? λi=>?_;by_cases l:i<d.es.length
    ·rw[dn,dn,dn,List.getElem?_range l,S i l];exact congrArg some (T i l).1.1
    ·rw[eY (by simpa using Nat.le_of_not_lt l),eY (by simpa using Nat.le_of_not_lt l)]
   ·have X:i<d.es.length:=by
      have:=(aZ.1 l).1;simpa using this
    rw[dn,List.getElem?_range X]at l;obtain rfl:=az l;exact U i X t n m
   ·obtain⟨i,X,rfl⟩:=cu.1 l;obtain⟨aa,ad,ag⟩:=T i (List.mem_range.1 X);exact⟨⟨ad,ag.mono λr Q=>Q.1⟩,aa.2⟩
theorem bC.events(h:bC p s d w)(i:d.es.length<=100000):ao 10 #[aH p.b] w λe w'=>∃a c,e=.returned (ae a d.es.length c)/\Hid (am w w'/\uX a d.es.length c/\∃f,f.length=d.es.length/\f.map JC=s.evs/\Fu w.heap.size a f w'):=by
 have g:=ap (h.eventsF i);clear h i;generalize d.es.length=k at*;go_enter func10,ntmps10;go_wp2_with fail;refine g.mono ?_;rintro e l ⟨a,c,rfl,j⟩;clear g;go_wp2_with fail
 go_ret
 exact⟨a,c,rfl,j⟩
end
theorem FP{x y:Tc}(g:nR x)(a:nR y)(b:cn 13 x=cn 13 y):aB 13 x 13 y=true:=by
 have j:∀{f:Tc},f.1=(0,0,⟨#[]⟩)->f.2.2=[]->cn 13 f=sH:=λ{f} c h=>by
  obtain⟨⟨m,d,e⟩,⟨n,o⟩,p⟩:=f;simp only[eH]at c h;obtain⟨rfl,rfl,rfl⟩:=c;subst h;rfl
 have i:¬bJ 13 sH=0:=by
  intro k;have l:aJ ⟨13,sH⟩:=aU.2 (bM.1 k).1;have:=l _ nB;simp[cQ,sH]at this
 rcases g with g|⟨d,e⟩
 ·rcases a with a|⟨y1,y2⟩
  ·have c:=dX _ _ _ _ (eI g);rw[b]at c;exact bS _ _ _ _ _ _ c (eI a)
  ·rw[j y1 y2]at b;exact absurd (b▸nP g) i
 ·rcases a with a|⟨y1,y2⟩
  ·rw[j d e]at b;exact absurd (b▸nP a) i
  ·obtain⟨⟨m,d,e⟩,⟨n,o⟩,p⟩:=x;obtain⟨⟨q,r,s⟩,⟨t,u⟩,v⟩:=y;simp only at d e y1 y2;subst e y2;exact dt (by rw[d,y1]) rfl
theorem CY(b:Nat)(name:aq)(w:ag)(d:ai w b 0 (af name))(c:Hid (∀w1:ag,ao 63 #[af name] w1 λe w'=>e=.returned (af name)/\am w1 w')):ao 33 #[aH b] w λe w'=>e=.returned (af name)/\am w w':=by
 go_enter func33,ntmps33;go_wp2_with fail;refine(c _).mono ?_;rintro e w1 ⟨rfl,a⟩;have HB:=ap a;clear a;go_wp2_with fail
 go_ret
 exact⟨rfl,HB⟩
theorem P1.sname{b a:Nat}{name:aq}{room:Int}{cs:Tc}{c:List Tc}{k:Nat}{M:aO}{w:ag}(d:P1 b a name room cs c k M w)(h:name.size<=2048):ao 33 #[aH a] w λe w'=>e=.returned (af name)/\am w w':=by
 obtain⟨l,s,p,x,r,t,v,n,o,j,f,_⟩:=d;obtain⟨u,m,q,g,_⟩:=f.heap.box;exact CY a name w (PL.cells g).1 λi=>ey name i h
theorem P1.mails2{x v:Nat}{name:aq}{room:Int}{cs:Tc}{g:List Tc}{k:Nat}{M:aO}{w:ag}(C:P1 x v name room cs g k M w)(J:k<=50000)(D:g.length<=999):ao 35 #[aH v] w λe w'=>∃(ys:List Tc)(a:ar)(c:Nat),e=.returned (ae a g.length c)/\Hid (ys.length=g.length/\am w w'/\fZ w'.heap.size w' 13 ys a/\ys.map (cn 13)=g/\((∀b,(Value.slice a g.length c).ownBlock=some b->w.heap.size<=b)/\g.length<=c)/\∀y∈ys,bJ 13 y=0/\cD (λq=>w.heap.size<=q) 13 y):=by
 obtain⟨R,ad,l,ai,ab,af,ah,Z,aa,P,t,⟨rfl,rfl⟩,X,Y⟩:=C;have G:∀y∈l,bJ 13 y=0:=λy d=>((t.front (N:=12)).2.2.1 y (bW _ d)).1;have W:l.length<=999:=by simpa using D
 refine(t.mails (N:=12) J (by omega)).mono ?_;rintro e w' ⟨ys,A,a,c,rfl,z⟩;obtain⟨u,j,p⟩:=z;have E:A=(l.map (cn 13)).length:=by
  rw[<-u,dS];exact cW _ _ _ p
 subst E;obtain⟨Q,S,m,_,n,_⟩:=fF.lay (eG 13) (f:=iQ 13) (λ_=>rfl) j;injection m with m _ _;subst m;have H:(l.map (cn 13)).length<=c:=by
  rcases j.2.1.2 with⟨_,U⟩|⟨s,cap,T,e,_,_,V,_⟩
  ·omega
  ·injection e with _ _ e;omega
 refine⟨ys,a,c,rfl,u,j.1,?_,QO ys l p,⟨λb F=>(j.2.1.lt b F).1,H⟩,λy d=>⟨?_,(j.2.2 y d).2.mono λq K=>by rcases K.1 with r|r<;>omega⟩⟩
 ·rcases n with n|⟨s,o,B,I,h⟩
  ·exact aj n
  ·exact ak ⟨s,o,B,I,λi y d=>⟨⟨(h i y d).1 0 _ rfl,(h i y d).1 1 _ rfl,(h i y d).1 2 _ rfl,(h i y d).1 3 _ rfl⟩,(h i y d).2⟩⟩
 ·obtain⟨r,O,L⟩:=tn _ _ _ p y d;exact(cd L).trans (G r O)
section
variable {p:lG} {s:Sy} {d:gE} {w:ag}
end
theorem Fc(s:aq)(r:s=⟨#[40,99,111,100,101,32,40,98,101,104,32,99,111,117,110,116,32,40,111,110,32,36,48,32,40,117,112,32,36,49,41,32,40,41,32,40,97,100,100,32,36,48,32,36,49,41,41,32,40,111,110,32,36,48,32,40,97,115,107,32,36,49,41,32,40,40,115,101,110,100,32,36,49,32,40,104,97,118,101,32,36,48,41,41,41,32,36,48,41,32,40,111,110,32,95,32,102,111,114,107,32,40,40,115,112,97,119,110,32,99,111,117,110,116,32,48,32,36,48,41,32,40,108,105,110,107,32,36,48,41,32,40,115,101,110,100,32,36,48,32,40,117,112,32,55,41,41,41,32,49,41,32,40,111,110,32,95,32,115,116,111,112,32,40,40,115,116,111,112,41,41,32,48,41,32,40,111,110,32,95,32,98,97,100,32,40,41,32,40,97,100,100,32,97,32,97,41,41,41,41]⟩)(w:ag)(o:Int->Int->aq->ar->Nat->Nat->bt)(i:ar->Nat->Nat->bt)(m:Hid (ao 39 #[af s] w λe w'=>∃y0 y1 y2 ya yl yc,e=.returned (.tuple #[.agg #[ab y0,ab y1,af y2,ae ya yl yc],ab 0,ab 0])/\Hid (o y0 y1 y2 ya yl yc w')))(k:Hid (∀y0 y1 y2 ya yl yc W n,o y0 y1 y2 ya yl yc W->am W n->ao 38 #[.agg #[ab y0,ab y1,af y2,ae ya yl yc]] n λe w'=>∃a l c,e=.returned (.tuple #[ae a l c,ab 0])/\Hid (i a l c w'))):ao 19 #[] w λe w'=>∃a l c,e=.returned (ae a l c)/\Hid (i a l c w'):=by
 subst r;go_enter func19,ntmps19;go_wp2_with fail;refine m.mono ?_;rintro e h ⟨y0,y1,y2,ya,yl,yc,rfl,j⟩;clear m;go_upto_region 2 with fail;generalize g:h.alloc _=b;have q:=ap (k _ _ _ _ _ _ _ b j (by rw[<-g];exact aS _ _));have d:b.heap[h.heap.size]?=some (.cells #[ab y0,ab y1,af y2,ae ya yl yc] 31):=by
  rw[<-g];exact aD _ _
 generalize h.heap.size=f at*;have t:ai b f 0 (ab y0):=ah d 0;have u:ai b f 1 (ab y1):=ah d 1;have v:ai b f 2 (af y2):=ah d 2;have x:ai b f 3 (ae ya yl yc):=ah d 3;clear g d k j;go_wp2_with fail;refine q.mono ?_;rintro e y ⟨a,l,c,rfl,p⟩;go_wp2_with fail
 go_ret
 exact⟨a,l,c,rfl,p⟩
theorem Jg(p:Int)(s:aq)(w:ag)(u:Int->Int->aq->ar->Nat->Nat->bt)(C:Hid (∀W,am w W->w.heap.size<W.heap.size->ao 39 #[af s] W λe w'=>∃y0 y1 y2 ya yl yc,e=.returned (.tuple #[.agg #[ab y0,ab y1,af y2,ae ya yl yc],ab 0,ab 0])/\Hid (am W w'/\∀j,bE (λq=>q=w.heap.size) w' j->u y0 y1 y2 ya yl yc j))):ao 22 #[ab p,af s] w λe w'=>∃y0 y1 y2 ya yl yc,e=.returned (.agg #[ab 3,ab p,ab 0,ab y0,ab y1,af y2,ae ya yl yc])/\Hid (u y0 y1 y2 ya yl yc w'/\am w w'):=by
 go_enter func22,ntmps22;go_upto_region 1 with fail;generalize A:w.alloc _=r;have n:am w r:=by rw[<-A];exact aS _ _
 have y:r.heap[w.heap.size]?=some (.cells #[ab 0,ab 0,ab 0,ab 0,ab 0,af .empty,ae none 0 0] 33):=by
  rw[<-A];exact aD _ _
 have z:=(aI.1 y).1;have D:=ap (C r n z);clear A C;go_wp2_with fail;refine D.mono ?_;rintro e g ⟨y0,y1,y2,ya,yl,yc,rfl,h⟩;clear D;go_upto_region 2 with fail;generalize B:g.alloc _=d;have i:am g d:=by rw[<-B];exact aS _ _
 have l:d.heap[g.heap.size]?=some (.cells #[ab y0,ab y1,af y2,ae ya yl yc] 31):=by
  rw[<-B];exact aD _ _
 have F:=h.1.size;have f:=(i.block w.heap.size (by omega)).trans ((h.1.block w.heap.size z).trans y);have N:w.heap.size≠g.heap.size:=by omega
 have HB:=ap (⟨n.trans ((h.1.trans (i.mono F)).mono n.size),h,aR i _⟩:am w d/\Hid (am r g/\∀j,bE (λq=>q=w.heap.size) g j->u y0 y1 y2 ya yl yc j)/\bE (λq=>q=w.heap.size) g d);generalize O:w.heap.size=a at*;generalize g.heap.size=q at*;have I:ai d q 0 (ab y0):=ah l 0;have J:ai d q 1 (ab y1):=ah l 1;have K:ai d q 2 (af y2):=ah l 2;have L:ai d q 3 (ae ya yl yc):=ah l 3;have d0:ai d a 0 (ab 0):=ah f 0;have d1:ai d a 1 (ab 0):=ah f 1;have d2:ai d a 2 (ab 0):=ah f 2;have d3:ai d a 3 (ab 0):=ah f 3;have d4:ai d a 4 (ab 0):=ah f 4;have d5:ai d a 5 (af .empty):=ah f 5;have d6:ai d a 6 (ae none 0 0):=ah f 6;have M:∀k,d.frozen? ⟨a,k,none⟩=false:=λk=>by simp[World.frozen?,f]
 clear B i l f h y z F n;go_wp2_with fail;obtain⟨o,h,i⟩:=HB;have x:bE (λb=>b=a) d (((((((d.setCell ⟨a,0,none⟩ (ab 3)).setCell ⟨a,1,none⟩ (ab p)).setCell ⟨a,2,none⟩ (ab 0)).setCell ⟨a,3,none⟩ (ab y0)).setCell ⟨a,4,none⟩ (ab y1)).setCell ⟨a,5,none⟩ (af y2)).setCell ⟨a,6,none⟩ (ae ya yl yc)):=by
  have t:∀{E b c:ag},bE (λq=>q=a) E b->bE (λq=>q=a) b c->bE (λq=>q=a) E c:=λG k=>G.trans k λ_ _ m=>m;exact t (t (t (t (t (t (bN _ _ _ _) (bN _ _ _ _)) (bN _ _ _ _)) (bN _ _ _ _)) (bN _ _ _ _)) (bN _ _ _ _)) (bN _ _ _ _)
 refine ay (v:=.agg #[ab 3,ab p,ab 0,ab y0,ab y1,af y2,ae ya yl yc]) (by simp[results,results22,go_sem,d0,d1,d2,d3,d4,d5,d6]) rfl ⟨y0,y1,y2,ya,yl,yc,rfl,h.2 _ (i.trans x λ_ _ m=>m),?_⟩
 first|exact(o.trans (x.below (by have:=o.size;omega) λb H m=>by omega)).mono (by omega)|exact o.trans (x.below (by have:=o.size;omega) λb H m=>by omega)
theorem Jf(x:Nat)(g n c:Nat)(kd f h i k:Nat->Int)(l:Nat->aq)(xa:Nat->ar)(m xc:Nat->Nat)(w:ag)(K:Nat->bt)(I:n<=1000)(s:Hid (K 0 w))(o:Hid (∀j W,j<n->K j W->(ai W g (j*7) (ab (kd j))/\ai W g (j*7+1) (ab (f j))/\ai W g (j*7+2) (ab (h j))/\ai W g (j*7+3) (ab (i j))/\ai W g (j*7+4) (ab (k j))/\ai W g (j*7+5) (af (l j))/\ai W g (j*7+6) (ae (xa j) (m j) (xc j)))/\Hid (∀u,am W u->ao 8 #[aH x,.agg #[ab (kd j),ab (f j),ab (h j),ab (i j),ab (k j),af (l j),ae (xa j) (m j) (xc j)]] u λe w'=>e=.returned (ab 0)/\Hid (K (j+1) w')))):ao 21 #[aH x,ae (some ⟨g,0,none⟩) n c] w λe w'=>e=.returned (.bool true)/\Hid (K n w'):=by
 go_enter func21,ntmps21;go_wp2_with fail;go_loopw [6,9] (λ_ r wr=>∃(j:Nat),j<=n/\r=ab j/\Hid (K j wr)) (λ_ r _=>n-(intOf r).toNat)
 case atStart=>exact⟨0,aM _,rfl,s⟩
 case round=>
 clear s;obtain⟨j,H,rfl,p⟩:=hrel;by_cases v:j<n
 ·obtain⟨⟨A,B,C,D,E,F,G⟩,t⟩:=o.out j _ v p;have J:(0:Int)<=(j:Int):=by omega
  have L:(j:Int)<(n:Int):=by omega
  clear o p;go_upto_region 4 with fail;generalize q:World.alloc _ _=a;have b:a.heap[wr.heap.size]?=some (.cells #[ab (kd j),ab (f j),ab (h j),ab (i j),ab (k j),af (l j),ae (xa j) (m j) (xc j)] 33):=by
   rw[<-q];exact aD _ _
  have z:=ap (t a (by rw[<-q];exact aS _ _));generalize wr.heap.size=d at*;have d0:ai a d 0 (ab (kd j)):=ah b 0;have d1:ai a d 1 (ab (f j)):=ah b 1;have d2:ai a d 2 (ab (h j)):=ah b 2;have d3:ai a d 3 (ab (i j)):=ah b 3;have d4:ai a d 4 (ab (k j)):=ah b 4;have d5:ai a d 5 (af (l j)):=ah b 5;have d6:ai a d 6 (ae (xa j) (m j) (xc j)):=ah b 6;clear q b t A B C D E F G;go_wp2_with fail;refine z.mono ?_;rintro e M ⟨rfl,y⟩;go_wp2_with fail;go_roundw
  case rel=>exact⟨j+1,by omega,by go_num,y⟩
  case measure=>simp[intOf];omega
 obtain rfl:j=n:=by omega
 clear o H v;go_wp2_with fail
 go_ret
 exact⟨rfl,p⟩
def zm(w:ag)(a:ar)(L c:Nat)(W:ag):Prop:=∃(M:Nat)(q:List (Bh (M+1))),q.length=L/\am w W/\(L<=c/\c<=maxLen)/\gL (M+1) W.heap.size W a q/\mK M q=0/\aB (M+6) (cm M q) 7 (cm 1 gg)=true
theorem Hj{n:Nat}{l:List (Bh (n+1))}(g:mK n l=0){m:Nat}{y0 y1:Int}{y2:aq}{ya:ar}{yl yc:Nat}{W:ag}(o:∃x:Tm (m+1),(x.1=(y0,y1,y2)/\x.2.1=(ya,yc)/\x.2.2.length=yl)/\aB (m+1) x (n+6) (cm n l)=true/\In W.heap.size W (m+1) x):ao 38 #[.agg #[ab y0,ab y1,af y2,ae ya yl yc]] W λe w'=>∃a L c,e=.returned (.tuple #[ae a L c,ab 0])/\Hid (am W w'/\∃q:List (Bh (m+1)),q.length=L/\(L<=c/\c<=maxLen)/\gL (m+1) w'.heap.size w' a q/\mK m q=0/\aB (m+6) (cm m q) (n+6) (cm n l)=true):=by
 obtain⟨⟨⟨w,y,z⟩,⟨A,B⟩,C⟩,⟨f1,f2,f3⟩,d,p⟩:=o;simp only[eH]at f1 f2;obtain⟨rfl,rfl,rfl⟩:=f1;obtain⟨rfl,rfl⟩:=f2;subst f3;have b:=(cd d).trans (fJ g).2.1;obtain⟨D,f,j,_⟩:=Lt m (m+1) n (av _) l (fJ g).1 _ (qC b) d;have hF:BM m (m+1) ((w,y,z),(A,B),C)=0:=by
  unfold BM;rw[if_pos b,f];unfold BN;simp only[j,dj]
 have h:=BO m (m+1) (av _) _ W.heap.size W p (fD b) (av _);rw[hF]at h;refine h.mono ?_;rintro e w' ⟨q,a,c,rfl,k⟩;obtain⟨s,t,u,_,_,v⟩:=k;obtain⟨E,i,r⟩:=v rfl;rw[f]at i;obtain rfl:=az i;obtain⟨_,t2,t3,_⟩:=yE (av _) b f r j;rw[(fJ t2).2.2]at t3;exact⟨a,q.length,c,rfl,s,q,rfl,t,u,t2,bS _ _ _ _ _ _ t3 d⟩
theorem Jb(w:ag):ao 19 #[] w λe w'=>∃a l c,e=.returned (ae a l c)/\Hid (zm w a l c w'):=by
 refine Fc L9 rfl w (λy0 y1 y2 ya yl yc d=>am w d/\∃(b:Nat)(x:Tm (b+1)),(x.1=(y0,y1,y2)/\x.2.1=(ya,yc)/\x.2.2.length=yl)/\aB (b+1) x 7 (cm 1 gg)=true/\In d.heap.size d (b+1) x) (zm w) ((Cr N5 qZ.1 w).mono ?_) λy0 y1 y2 ya yl yc d u ⟨h,b,x,p,r,q⟩ g=>?_
 ·rintro e w' ⟨b,x,rfl,f⟩;obtain⟨m,n,_,o⟩:=f.out;exact⟨_,_,_,_,_,_,rfl,o,b,x,⟨rfl,rfl,rfl⟩,m,n⟩
 ·refine(Hj Kk ⟨x,p,r,(q.below g).mono g.size⟩).mono ?_;rintro e w' ⟨a,j,c,rfl,f⟩;obtain⟨s,t,k⟩:=f;have i:=h.trans (g.mono h.size);exact⟨a,j,c,rfl,b,t,k.1,i.trans (s.mono i.size),k.2⟩
def uT(w0:ag)(s:Sy)(i a:Nat)(W:ag):Prop:=∃(p:lG)(d:gE),p.b=a/\bC p s d W/\(p.room=60/\aB (p.n+6) (cm p.n p.prog) 7 (cm 1 gg)=true)/\(d.k<=i*402/\d.es.length<=i*201/\d.wn<=i*201/\d.bn<=i*201)/\am w0 W/\w0.heap.size<=p.lo
theorem LZ(w0:ag){a:ar}{L c:Nat}{W:ag}(m:zm w0 a L c W):ao 18 #[ae a L c,ab 60] W λe w'=>∃i,e=.returned (.tuple #[aH i,ab 0])/\Hid (uT w0 Mx 0 i w'):=by
 obtain⟨k,s,rfl,d,g,n,f,o⟩:=m;refine(CT k s a c 60 W n g.1 g.2 λ_=>fD (fJ f).2.1).mono ?_;rintro e w' ⟨E,x,rfl,j⟩;obtain⟨p,q,_,r⟩:=j;have y:x=0:=by
  rw[p];unfold mA;rw[if_neg (by rw[f];decide),if_pos (by decide)]
 subst y;obtain⟨h,l,rfl,t,⟨z,u,A,B⟩,v,C,D,w⟩:=r rfl;exact⟨h.b,rfl,h,l,rfl,t,⟨v,bS _ _ _ _ _ _ w o⟩,⟨by omega,by rw[u];exact aM _,by omega,by omega⟩,d.trans (q.mono d.size),by have:=d.size;omega⟩
theorem bC.sound{p:lG}{s:Sy}{d:gE}{w:ag}(e:bC p s d w):∀a nm cs c,s.get a=some (nm,cs,c)->(bJ 13 cs=0/\aT 13 cs=true)/\∀t∈c,bJ 13 t=0/\aT 13 t=true:=λa nm cs c g=>by
 obtain⟨b,k⟩:∃b,dl d.l a=some b:=by
  have:=e.alive a;rw[g]at this;exact gw.1 this
 obtain⟨q,i,h,f,j,_⟩:=e.ps a b k;rw[g]at f;obtain⟨rfl,rfl,rfl⟩:nm=q/\cs=i/\c=h:=by simpa using f
 obtain⟨m,n,o,_⟩:=j.ok;exact⟨⟨m,n⟩,o⟩
def Du(w0:ag)(V:aO)(a:ag)(s:Sy)(i c:Nat)(W:ag):Prop:=∃(p:lG)(d:gE),p.b=c/\bC p s d W/\(p.room=60/\aB (p.n+6) (cm p.n p.prog) 7 (cm 1 gg)=true)/\(d.k<=i*402/\d.es.length<=i*201/\d.wn<=i*201/\d.bn<=i*201)/\(am w0 W/\w0.heap.size<=p.lo)/\(∀q,V q->q<a.heap.size/\d.ow q=0)/\bE (λq=>¬V q) a W
theorem Du.later{w0:ag}{V:aO}{d:ag}{s:Sy}{i e:Nat}{W c:ag}(h:Du w0 V d s i e W)(b:am W c):Du w0 V d s i e c:=by
 obtain⟨o,f,g,j,k,l,a,m,n⟩:=h;exact⟨o,f,g,j.later b,k,l,⟨a.1.trans (b.mono a.1.size),a.2⟩,m,n.trans (aR b _) λ_ _ p=>p⟩
theorem Du.at{w0:ag}{V:aO}{c:ag}{s:Sy}{i b:Nat}{W:ag}(f:Du w0 V c s i b W):uT w0 s i b W:=by
 obtain⟨k,d,e,g,h,j,a,_⟩:=f;exact⟨k,d,e,g,h,j,a.1,a.2⟩
theorem uT.from{w0:ag}{s:Sy}{i g:Nat}{a W:ag}(l:uT w0 s i g a)(f:am a W){V:aO}(e:∀q,V q->a.heap.size<=q/\q<W.heap.size):Du w0 V W s i g W:=by
 obtain⟨p,b,k,c,m,n,d,o⟩:=l;refine⟨p,b,k,c.later f,m,n,⟨d.trans (f.mono d.size),o⟩,λq h=>⟨(e q h).2,?_⟩,bE.refl _ _⟩;by_cases j:b.ow q=0
 ·exact j
 ·have:=(c.low q j).2;have:=(e q h).1;omega
theorem O6{n:Nat}{P:List (Bh (n+1))}(f:aB (n+6) (cm n P) 7 (cm 1 gg)=true)(g:mK n P=0){s:Sy}(i:∀a nm cs d,s.get a=some (nm,cs,d)->(bJ 13 cs=0/\aT 13 cs=true)/\∀t∈d,bJ 13 t=0/\aT 13 t=true)(h:0<=s.last/\s.last<=90)(e:Int×Int×Int×Tc){m:Nat}{x:Tm m}(b:aB m x 13 e.2.2.2=true\/e.1≠3):s.do n P 60 e.1 e.2.1 e.2.2.1 m x=Kf s e:=by
 rw[FM f g Kk i h];rcases b with b|b
 ·by_cases c:e.1=3
  ·unfold Kf;rw[c];exact KG b s 60 e.2.1 e.2.2.1
  ·unfold Kf Sy.do;rw[if_neg c,if_neg c]
 ·unfold Kf Sy.do;rw[if_neg b,if_neg b]
theorem sD{p:lG}{s:Sy}{d f:gE}{a c B:Nat}{w w':ag}(b:bC p s d w)(k:gG a c d f w w')(h:B<=p.lo):Below B w w':=by
 refine⟨k.1.os,k.1.tape,k.1.output,k.1.size,λe i=>k.1.block e ?_ λg=>?_⟩
 ·have:=b.lo.1;omega
 ·have:=(b.low e g).1;omega
theorem N1{w0:ag}{V:aO}{g:ag}{s:Sy}{i l:Nat}{W:ag}(y:Du w0 V g s i l W)(I:i<=100)(e:Int×Int×Int×Tc)(A:I2 (e.2.1,e.2.2.1)){m:Nat}(x:Tm (m+1))(E:In g.heap.size g (m+1) x/\cD V (m+1) x)(z:(aC (m+1) x).length<=2097152)(C:aB (m+1) x 13 e.2.2.2=true\/e.1≠3):ao 8 #[aH l,.agg #[ab e.1,ab e.2.1,ab e.2.2.1,ab x.1.1,ab x.1.2.1,af x.1.2.2,ae x.2.1.1 x.2.2.length x.2.1.2]] W λr w'=>r=.returned (ab (Kf s e).2)/\Hid (Du w0 V g (Kf s e).1 (i+1) l w'):=by
 obtain⟨F,G,rfl,d,⟨o,p⟩,J,j,f,k⟩:=y;have q:=eJ k (D:=V) (λb a n=>n a) E;have B:=O6 p d.pg.2.2.2.1 d.sound ⟨d.keys.2.2.2.1,d.keys.2.2.2.2.1⟩ e C;refine(d.do A x ⟨q.1,q.2.mono λc a=>?_⟩ z (by omega) (by omega) (by omega) (by omega)).mono ?_
 ·have:=(f c a).2;omega
 ·rintro r w' ⟨O,rfl,v⟩;obtain⟨t,w,u,h⟩:=v;rw[o,B]at t u;have H:=k.size;refine⟨by rw[t],F,w,rfl,u,⟨o,p⟩,?_,⟨j.1.trans (sD d h j.2),j.2⟩,λc a=>⟨(f c a).1,?_⟩,k.trans h.1 λc _ a n=>?_⟩
  ·obtain⟨_,_,K,L,M,N⟩:=h;omega
  ·rw[h.2.1 c (by have:=(f c a).1;omega)];exact(f c a).2
  ·exact a (f c n).2
def wt:(n:Nat)->Tm n->Nat
 | 0,_=>1
 | n+1,x=>1+x.1.2.2.size+(x.2.2.map λy=>wt n y).sum
theorem rZ:(n:Nat)->(x:Tm n)->(aC n x).length<=wt n x
 | 0,_=>by simp[aC,wt]
 | n+1,x=>by
  have key:∀l:List (Tm n),(l.flatMap λy=>aC n y).length<=(l.map λy=>wt n y).sum:=by
   intro l
   induction l with
   | nil=>simp
   | cons y l ih=>
    have:=rZ n y;simp only[bP,bz,aV,bR];omega
  have:=key x.2.2;simp only[aC,wt,bA];omega
theorem own:ownKnob Tryz.prog.godebug=none:=by kernel_rfl
theorem uG:laidOutB Tryz.prog=true:=by kernel_rfl
theorem kM:Tryz.prog.cellsOf 31=4:=by kernel_rfl
theorem vj:Tryz.prog.cellsOf 3=1:=by kernel_rfl
theorem mg:Tryz.prog.cellsOf 9=1:=by kernel_rfl
theorem DI:Tryz.prog.cellsOf 29=1:=by kernel_rfl
theorem Ad{f:Type}{P:Nat->f->Prop}:(len:Nat)->(∀i,i<len->∃y,P i y)->∃l:List f,l.length=len/\∀i y,l[i]?=some y->P i y
 | 0,_=>⟨[],rfl,λi y b=>by simp at b⟩
 | len+1,b=>by
  obtain⟨l,j,k⟩:=Ad len (λi d=>b i (by omega));obtain⟨e,m⟩:=b len (by omega);refine⟨l++ [e],by simp[j],λi y a=>?_⟩;by_cases d:i<l.length
  ·rw[dB d]at a;exact k i y a
  ·rw[dR (by omega)]at a;have c:i-l.length=0:=by
    by_cases c:i-l.length=0
    ·exact c
    ·rw[eY (by simp;omega)]at a;cases a
   rw[c]at a;have g:e=y:=by simpa using a
   have h:i=len:=by omega
   rw[h,<-g];exact m
theorem OB{H:Type}{n:Nat}:(p:List (Tm n))->(es:List (DataW H))->(∀(i:Nat)(y:Tm n)(e:DataW H),p[i]?=some y->es[i]?=some e->wt n y<=Rows.uptoBulk e)->p.length=es.length->(p.map λy=>wt n y).sum<=Rows.uptoBulkAll es
 | [],es,_,h=>by simp
 | y::p,[],_,h=>by simp at h
 | y::p,e::es,hp,h=>by
  have f:=hp 0 y e (by simp) (by simp);have g:=OB p es (λi d a c b=>hp (i+1) d a (by simpa using c) (by simpa using b)) (by simpa using h);simp only[aV,bR,Rows.uptoBulkAll];omega
theorem Fy(b o i j:Nat):((⟨b,o,none⟩:Addr).add i).add j=⟨b,o+i+j,none⟩:=by
 unfold Addr.add;split<;>split<;>simp_all
theorem yQ{w:ag}{a:Addr}{v:au}(c:w.cell? ((a.add 0).add 0)=some v):a=⟨a.block,a.off,none⟩:=by
 have d:(a.add 0).add 0=a:=rfl;rw[d]at c;unfold World.cell? at c;split at c
 ·split at c
  ·cases c
  ·rename_i e;cases a with
   | mk b o f=>cases f with
    | none=>rfl
    | some g=>simp at e
 ·cases c
theorem AT{k:Int}(a:(Lit.int .i64 k).wf=true):dN k:=by
 have: -9223372036854775808<=k/\k<=9223372036854775807:=by simpa [Lit.wf,IntKind.min,IntKind.max,IntKind.signed,IntKind.bits]using a
 exact this
theorem N3{H:Type}(enc:TypeId×au->H)(w:ag)(p:Nat->Bool):(n f:Nat)->f<=2*n+1->(cs:cX)->(x:DataW H×List MemPlace)-> DataW.trod enc Tryz.prog w 0 p true f 31 cs=some x-> ∃t:Tm (n+1),cs=[ab t.1.1,ab t.1.2.1,af t.1.2.2,ae t.2.1.1 t.2.2.length t.2.1.2]/\In w.heap.size w (n+1) t/\wt (n+1) t<=Rows.uptoBulk x.1:=by
 intro n
 induction n with
 | zero=>
  intro f aq cs x l;obtain⟨h,m,rfl,rfl,I,K,q⟩:=jC underlying31 l;have u:DataW.trod enc Tryz.prog w 0 p true m 3 ((cs.drop 0).take (Tryz.prog.cellsOf 3))=h[0]? :=q 0 _ rfl;obtain rfl:m=0:=by omega
  have aJ:h.length=4:=K;rw[aN (by omega)]at u;cases u
 | succ n ih=>
  intro f aq cs x l;obtain⟨h,m,rfl,rfl,I,K,q⟩:=jC underlying31 l;have u:DataW.trod enc Tryz.prog w 0 p true m 3 ((cs.drop 0).take (Tryz.prog.cellsOf 3))=h[0]? :=q 0 _ rfl;have R:DataW.trod enc Tryz.prog w 0 p true m 3 ((cs.drop 1).take (Tryz.prog.cellsOf 3))=h[1]? :=q 1 _ rfl;have S:DataW.trod enc Tryz.prog w 0 p true m 9 ((cs.drop 2).take (Tryz.prog.cellsOf 9))=h[2]? :=q 2 _ rfl;have T:DataW.trod enc Tryz.prog w 0 p true m 29 ((cs.drop 3).take (Tryz.prog.cellsOf 29))=h[3]? :=q 3 _ rfl;rw[vj]at u R;rw[mg]at S;rw[DI]at T;rw[kM]at I;obtain⟨d,i,j,e,rfl⟩:∃d i j e,cs=[d,i,j,e]:=by
   match cs,I with
   | [d,i,j,e],_=>exact⟨d,i,j,e,rfl⟩
  obtain⟨y0,y1,y2,y,rfl⟩:∃y0 y1 y2 y,h=[y0,y1,y2,y]:=by
   match h,K with
   | [y0,y1,y2,y],_=>exact⟨y0,y1,y2,y,rfl⟩
  obtain⟨k,O,aA,Y⟩:=jB underlying3 (x:=y0) (by simpa using u);obtain⟨X,P,aB,Z⟩:=jB underlying3 (x:=y1) (by simpa using R);obtain⟨r,Q,aC,aa⟩:=pL underlying9 (x:=y2) (by simpa using S);have ai:DataW.trod enc Tryz.prog w 0 p true m 29 [e]=some y:=by simpa using T
  simp at O P Q;subst O P Q aA aB aC;rcases DataW.trod_slice underlying29 ai with⟨s,rfl⟩|⟨a,len,cap,D,aL,az,rfl,s,rfl,_,aF,an,aE,E,_,_⟩
  ·simp at s;subst s;refine⟨((k,X,r),(none,0),[]),rfl,⟨⟨AT Y,AT Z,aa,av _,aM _⟩,aj rfl⟩,?_⟩;have es:r.data.toList.length=r.size:=by rw[iR];rfl
   simp only[wt,Rows.uptoBulk,Rows.uptoBulkAll,aV,cF,iz];omega
  ·simp at s;subst s;simp only[kM]at E;have key:∀c,c<len->∃t:Tm (n+1),(∃b o,a=⟨b,o,none⟩/\b<w.heap.size/\dH w b (o+c*4) (n+1) t)/\In w.heap.size w (n+1) t/\∀g,(D.map (·.1))[c]?=some g->wt (n+1) t<=Rows.uptoBulk g:=by
    intro c aw;have V:=E c aw;have W:=E 0 (by omega);rw[aN (by omega)]at V W;obtain⟨ad,ao,ay⟩:=bI.1 V;obtain⟨ah,ap,aI⟩:=bI.1 W;obtain⟨_,aG,z⟩:=pV ao;obtain⟨_,aH,am⟩:=pV ap;obtain⟨t,rfl,G,F⟩:=ih az (by omega) ad _ ay;have U:=yQ (w:=w) (a:=a) (v:=ah[0]'(by omega)) (by have:=am 0 (by omega);rw[aN (by omega)]at this;simpa using this);have al:∀C,(a.add (c*4)).add C=⟨a.block,a.off+c*4+C,none⟩:=λC=>by
     have:=Fy a.block a.off (c*4) C;rw[<-U]at this;exact this
    have d:=z 0 (by omega);have i:=z 1 (by omega);have j:=z 2 (by omega);have e:=z 3 (by omega);rw[al]at d i j e;simp at d i j e;refine⟨t,⟨a.block,a.off,U,iC w ⟨a.block,a.off+c*4,none⟩ d,d,i,j,e⟩,G,λg A=>?_⟩;rw[dn,aN (by omega)]at A;have:(D[c]).1=g:=by simpa using A
    rw[<-this];exact F
   obtain⟨M,B,J⟩:=Ad len key;refine⟨((k,X,r),(some a,cap),M),by simp[B],⟨⟨AT Y,AT Z,aa,by simp only;omega,an⟩,?_⟩,?_⟩
   ·rcases Nat.eq_zero_or_pos len with l|l
    ·exact aj (bL (B.trans l))
    ·obtain⟨⟨b,o,rfl,F,_⟩,_,_⟩:=J 0 (M[0]'(by rw[B];exact l)) (aN (by rw[B];exact l));refine ak ⟨b,o,rfl,F,λc N L=>?_⟩;obtain⟨⟨aD,aK,g,_,ar⟩,G,_⟩:=J c N L;simp at g;obtain⟨rfl,rfl⟩:=g;exact⟨ar,G⟩
   ·have ax:=OB M (D.map (·.1)) (λc N g L A=>(J c N L).2.2 g A) (by simp;omega);have es:r.data.toList.length=r.size:=by rw[iR];rfl
    simp only[wt,Rows.uptoBulk,Rows.uptoBulkAll,aV,cF]at ax ⊢;omega
def Oz(n:Nat)(a:Ac n):Nat:=wt n a.2.1.1+wt n a.2.1.2+a.2.2.1.size+1
def OA(n:Nat)(c:Cl n):Nat:=wt n c.1.1+wt n c.1.2.1+wt n c.1.2.2+(c.2.2.map (Oz n)).sum+1
def Mz(n:Nat)(b:Bh n):Nat:=b.1.size+(b.2.2.map (OA n)).sum+1
theorem Bg:Tryz.prog.cellsOf 248=11:=by kernel_rfl
theorem tE:Tryz.prog.cellsOf 162=13:=by kernel_rfl
theorem Bi:Tryz.prog.cellsOf 151=2:=by kernel_rfl
theorem GQ:Tryz.prog.cellsOf 160=1:=by kernel_rfl
theorem zB:Tryz.prog.cellsOf 149=1:=by kernel_rfl
theorem Gd{a H:Type}(g:a->Nat):(p:List a)->(es:List (DataW H))->(∀(i:Nat)(y:a)(e:DataW H),p[i]?=some y->es[i]?=some e->g y<=Rows.uptoBulk e)->p.length=es.length->(p.map g).sum<=Rows.uptoBulkAll es
 | [],es,_,h=>by simp
 | y::p,[],_,h=>by simp at h
 | y::p,e::es,hp,h=>by
  have j:=hp 0 y e (by simp) (by simp);have k:=Gd g p es (λi f b d c=>hp (i+1) f b (by simpa using d) (by simpa using c)) (by simpa using h);simp only[aV,bR,Rows.uptoBulkAll];omega
theorem wI{H q:Type}(enc:TypeId×au->H)(w:ag)(L:Nat->Bool)(k:Nat)(f:q->List au)(r:q->Prop)(g:q->Nat)(T S:TypeId)(P:Tryz.prog.underlying S=some (.slice T))(ab:Tryz.prog.cellsOf T=k)(ao:0<k)(K:∀y,(f y).length=k)(D:Nat)(O:∀(m:Nat)(cs:cX)(x:DataW H×List MemPlace),m<=D->DataW.trod enc Tryz.prog w 0 L true m T cs=some x->∃y,cs=f y/\r y/\g y<=Rows.uptoBulk x.1)(m:Nat)(aw:m<=D)(v:au)(x:DataW H×List MemPlace)(j:DataW.trod enc Tryz.prog w 0 L true m S [v]=some x):∃a l c,v=ae a l.length c/\l.length<=c/\c<=maxLen/\qz w.heap.size w k f r a l/\(l.map g).sum+1<=Rows.uptoBulk x.1:=by
 rcases DataW.trod_slice P j with⟨d,rfl⟩|⟨a,len,cap,s,aA,ah,rfl,d,rfl,_,ar,V,an,t,_,_⟩
 ·simp at d;subst d;exact⟨none,[],0,rfl,av _,aM _,aj rfl,by simp[Rows.uptoBulk]⟩
 ·simp at d;subst d;simp only[ab]at t;have key:∀e,e<len->∃y:q,(∃b o,a=⟨b,o,none⟩/\b<w.heap.size/\∀(h:Nat)(i:au),(f y)[h]?=some i->ai w b (o+e*k+h) i)/\r y/\∀d,(s.map (·.1))[e]?=some d->g y<=Rows.uptoBulk d:=by
   intro e Z;have G:=t e Z;have I:=t 0 (by omega);rw[aN (by omega)]at G I;obtain⟨M,W,ad⟩:=bI.1 G;obtain⟨N,X,ay⟩:=bI.1 I;obtain⟨_,ap,R⟩:=pV W;obtain⟨_,aq,U⟩:=pV X;obtain⟨y,rfl,z,u⟩:=O ah M _ (by omega) ad;have E:=yQ (w:=w) (a:=a) (v:=N[0]'(by omega)) (by have:=U 0 (by omega);rw[aN (by omega)]at this;simpa using this);have Q:∀h,(a.add (e*k)).add h=⟨a.block,a.off+e*k+h,none⟩:=λh=>by
    have:=Fy a.block a.off (e*k) h;rw[<-E]at this;exact this
   have F:∀(h:Nat)(i:au),(f y)[h]?=some i->ai w a.block (a.off+e*k+h) i:=λh i J=>by
    have aa:=(aZ.1 J).1;have:=R h (by rw[K]at aa;omega);rw[Q,J]at this;exact this
   obtain⟨al,af⟩:∃i,(f y)[0]?=some i:=⟨(f y)[0]'(by rw[K];omega),aN _⟩;refine⟨y,⟨a.block,a.off,E,iC w ⟨a.block,a.off+e*k+0,none⟩ (F 0 al af),F⟩,z,λd n=>?_⟩;rw[dn,aN (by omega)]at n;have:(s[e]).1=d:=by simpa using n
   rw[<-this];exact u
  obtain⟨C,p,A⟩:=Ad len key;refine⟨some a,C,cap,by rw[p],by omega,V,?_,?_⟩
  ·rcases Nat.eq_zero_or_pos len with j|j
   ·exact aj (bL (p.trans j))
   ·obtain⟨⟨b,o,rfl,u,_⟩,_,_⟩:=A 0 (C[0]'(by rw[p];exact j)) (aN (by rw[p];exact j));refine ak ⟨b,o,rfl,u,λe y B=>?_⟩;obtain⟨⟨am,az,d,_,Y⟩,z,_⟩:=A e y B;simp at d;obtain⟨rfl,rfl⟩:=d;exact⟨Y,z⟩
  ·have ax:=Gd g C (s.map (·.1)) (λe y d B n=>(A e y B).2.2 d n) (by simp;omega);simp only[Rows.uptoBulk];omega
theorem oe{H:Type}(enc:TypeId×au->H)(w:ag)(a:Nat->Bool)(n m:Nat)(f:m<=n)(cs:cX)(x:DataW H×List MemPlace)(b:DataW.trod enc Tryz.prog w 0 a true m 31 cs=some x):∃t:Tm (n+1),cs=iQ (n+1) t/\In w.heap.size w (n+1) t/\wt (n+1) t<=Rows.uptoBulk x.1:=by
 obtain⟨t,c,d,e⟩:=N3 enc w a n m (by omega) cs x b;exact⟨t,c,d,e⟩
theorem OX{H:Type}(enc:TypeId×au->H)(w:ag)(b:Nat->Bool)(n m:Nat)(Y:m<=n)(cs:cX)(x:DataW H×List MemPlace)(M:DataW.trod enc Tryz.prog w 0 b true m 248 cs=some x):∃a:Ac (n+1),cs=gH (n+1) a/\jd (n+1) w.heap.size w a/\Oz (n+1) a<=Rows.uptoBulk x.1:=by
 obtain⟨c,m,rfl,rfl,G,N,o⟩:=jC underlying248 M;have B:DataW.trod enc Tryz.prog w 0 b true m 3 ((cs.drop 0).take (Tryz.prog.cellsOf 3))=c[0]? :=o 0 _ rfl;have C:DataW.trod enc Tryz.prog w 0 b true m 31 ((cs.drop 1).take (Tryz.prog.cellsOf 31))=c[1]? :=o 1 _ rfl;have D:DataW.trod enc Tryz.prog w 0 b true m 31 ((cs.drop 5).take (Tryz.prog.cellsOf 31))=c[2]? :=o 2 _ rfl;have E:DataW.trod enc Tryz.prog w 0 b true m 9 ((cs.drop 9).take (Tryz.prog.cellsOf 9))=c[3]? :=o 3 _ rfl;have F:DataW.trod enc Tryz.prog w 0 b true m 3 ((cs.drop 10).take (Tryz.prog.cellsOf 3))=c[4]? :=o 4 _ rfl;rw[vj]at B F;rw[kM]at C D;rw[mg]at E;rw[Bg]at G;obtain⟨r,d,e,f,g,h,i,j,l,u,s,rfl⟩:∃r d e f g h i j l u s,cs=[r,d,e,f,g,h,i,j,l,u,s]:=by
  match cs,G with
  | [r,d,e,f,g,h,i,j,l,u,s],_=>exact⟨r,d,e,f,g,h,i,j,l,u,s,rfl⟩
 obtain⟨y0,y1,y2,p,q,rfl⟩:∃y0 y1 y2 p q,c=[y0,y1,y2,p,q]:=by
  match c,N with
  | [y0,y1,y2,p,q],_=>exact⟨y0,y1,y2,p,q,rfl⟩
 obtain⟨k,y,T,Q⟩:=jB underlying3 (x:=y0) (by simpa using B);obtain⟨J,A,V,S⟩:=jB underlying3 (x:=q) (by simpa using F);obtain⟨v,z,U,R⟩:=pL underlying9 (x:=p) (by simpa using E);obtain⟨t,K,O,W⟩:=oe enc w b n m (by omega) [d,e,f,g] y1 (by simpa using C);obtain⟨I,L,P,X⟩:=oe enc w b n m (by omega) [h,i,j,l] y2 (by simpa using D);simp at y z A;subst y z A T U V;refine⟨(k,(t,I),(v,J)),?_,⟨AT Q,O,P,R,AT S⟩,?_⟩
 ·show _=ab k::(iQ (n+1) t++iQ (n+1) I++ [af v,ab J]);rw[<-K,<-L];rfl
 ·have es:v.data.toList.length=v.size:=by rw[iR];rfl
  simp only[Oz,Rows.uptoBulk,Rows.uptoBulkAll,aV,cF];omega
theorem GU{H:Type}(enc:TypeId×au->H)(w:ag)(b:Nat->Bool)(n m:Nat)(F:m<=n)(cs:cX)(x:DataW H×List MemPlace)(z:DataW.trod enc Tryz.prog w 0 b true m 162 cs=some x):∃a:Cl (n+1),cs=fy (n+1) a/\iE (n+1) w.heap.size w a/\OA (n+1) a<=Rows.uptoBulk x.1:=by
 obtain⟨d,m,rfl,rfl,E,Q,y⟩:=jC underlying162 z;have A:DataW.trod enc Tryz.prog w 0 b true m 31 ((cs.drop 0).take (Tryz.prog.cellsOf 31))=d[0]? :=y 0 _ rfl;have B:DataW.trod enc Tryz.prog w 0 b true m 31 ((cs.drop 4).take (Tryz.prog.cellsOf 31))=d[1]? :=y 1 _ rfl;have C:DataW.trod enc Tryz.prog w 0 b true m 160 ((cs.drop 8).take (Tryz.prog.cellsOf 160))=d[2]? :=y 2 _ rfl;have D:DataW.trod enc Tryz.prog w 0 b true m 31 ((cs.drop 9).take (Tryz.prog.cellsOf 31))=d[3]? :=y 3 _ rfl;rw[kM]at A B D;rw[GQ]at C;rw[tE]at E;obtain⟨e,f,j,k,o,p,q,r,s,u,g,h,i,rfl⟩:∃e f j k o p q r s u g h i,cs=[e,f,j,k,o,p,q,r,s,u,g,h,i]:=by
  match cs,E with
  | [e,f,j,k,o,p,q,r,s,u,g,h,i],_=>exact⟨e,f,j,k,o,p,q,r,s,u,g,h,i,rfl⟩
 obtain⟨y0,y1,y2,v,rfl⟩:∃y0 y1 y2 v,d=[y0,y1,y2,v]:=by
  match d,Q with
  | [y0,y1,y2,v],_=>exact⟨y0,y1,y2,v,rfl⟩
 obtain⟨t,J,R,U⟩:=oe enc w b n m (by omega) [e,f,j,k] y0 (by simpa using A);obtain⟨G,K,S,V⟩:=oe enc w b n m (by omega) [o,p,q,r] y1 (by simpa using B);obtain⟨I,M,T,W⟩:=oe enc w b n m (by omega) [u,g,h,i] v (by simpa using D);obtain⟨a,l,c,L,O,N,P,X⟩:=wI enc w b 11 (gH (n+1)) (jd (n+1) w.heap.size w) (Oz (n+1)) 248 160 underlying160 Bg (by omega) (λ_=>rfl) n (λm cs x F z=>OX enc w b n m F cs x z) m (by omega) s y2 (by simpa using C);subst L;refine⟨((t,G,I),(a,c),l),?_,⟨⟨R,S,T⟩,⟨O,N⟩,P⟩,?_⟩
 ·show _=iQ (n+1) t++iQ (n+1) G++(ae a l.length c::iQ (n+1) I);rw[<-J,<-K,<-M];rfl
 ·simp only[OA,Rows.uptoBulk,Rows.uptoBulkAll,aV,cF];omega
theorem O1{H:Type}(enc:TypeId×au->H)(w:ag)(d:Nat->Bool)(n m:Nat)(q:m<=n)(cs:cX)(x:DataW H×List MemPlace)(g:DataW.trod enc Tryz.prog w 0 d true m 151 cs=some x):∃a:Bh (n+1),cs=p7 (n+1) a/\pY (n+1) w.heap.size w a/\Mz (n+1) a<=Rows.uptoBulk x.1:=by
 obtain⟨f,m,rfl,rfl,p,v,o⟩:=jC underlying151 g;have j:DataW.trod enc Tryz.prog w 0 d true m 9 ((cs.drop 0).take (Tryz.prog.cellsOf 9))=f[0]? :=o 0 _ rfl;have k:DataW.trod enc Tryz.prog w 0 d true m 149 ((cs.drop 1).take (Tryz.prog.cellsOf 149))=f[1]? :=o 1 _ rfl;rw[mg]at j;rw[zB]at k;rw[Bi]at p;obtain⟨e,b,rfl⟩:∃e b,cs=[e,b]:=by
  match cs,p with
  | [e,b],_=>exact⟨e,b,rfl⟩
 obtain⟨y0,y1,rfl⟩:∃y0 y1,f=[y0,y1]:=by
  match f,v with
  | [y0,y1],_=>exact⟨y0,y1,rfl⟩
 obtain⟨h,i,z,y⟩:=pL underlying9 (x:=y0) (by simpa using j);obtain⟨a,l,c,r,t,s,u,A⟩:=wI enc w d 13 (fy (n+1)) (iE (n+1) w.heap.size w) (OA (n+1)) 162 149 underlying149 tE (by omega) (λ_=>rfl) n (λm cs x q g=>GU enc w d n m q cs x g) m (by omega) b y1 (by simpa using k);simp at i;subst i z r;refine⟨(h,(a,c),l),rfl,⟨y,⟨t,s⟩,u⟩,?_⟩;have es:h.data.toList.length=h.size:=by rw[iR];rfl
 simp only[Mz,Rows.uptoBulk,Rows.uptoBulkAll,aV,cF];omega
theorem Iw{H:Type}{enc:TypeId×au->H}{W:ag}{r:Reach}{g:Nat}{v:au}{d:DataW H}{p:List MemPlace}(u:Value.okWide Tryz.prog W r g 22 v)(b:DataW.Trod enc Tryz.prog W 0 (λ_=>true) true 22 v d p):∃n,∃l:List (Bh (n+1)),∃a c,v=ae a l.length c/\l.length<=c/\c<=maxLen/\gL (n+1) W.heap.size W a l/\(l.map (Mz (n+1))).sum<=Rows.uptoBulk d:=by
 obtain⟨a,len,cap,rfl⟩:=okWide_slice underlying22 u;obtain⟨f,q⟩:=b;have s:DataW.trod enc Tryz.prog W 0 (λ_=>true) true f 22 [ae a len cap]=some (d,p):=q;obtain⟨e,l,c,i,j,k,m,o⟩:=wI enc W (λ_=>true) 2 (p7 (f+1)) (pY (f+1) W.heap.size W) (Mz (f+1)) 151 22 underlying22 Bi (by omega) (λ_=>rfl) f (λw h x t b=>O1 enc W _ f w t h x b) f (av _) _ _ s;exact⟨f,l,e,c,i,j,k,m,by simp only at o;omega⟩
abbrev Sk(n:Nat):Type:=aq×Tm (n+1)
def Qe(n:Nat)(c:Sk n):List au:=af c.1::iQ (n+1) c.2
def Oe(n:Nat)(c:Sk n):Nat:=wt (n+1) c.2+1
def JJ(n:Nat)(B:Nat)(w:ag)(c:Sk n):Prop:=c.1.size<=maxLen/\In B w (n+1) c.2
abbrev Hn(n:Nat):Type:=(Int×Int×Int)×Tm (n+1)
def Qq(n:Nat)(c:Hn n):List au:=ab c.1.1::ab c.1.2.1::ab c.1.2.2::iQ (n+1) c.2
def Od(n:Nat)(c:Hn n):Nat:=wt (n+1) c.2+1
def Gw(n:Nat)(B:Nat)(w:ag)(c:Hn n):Prop:=(dN c.1.1/\dN c.1.2.1/\dN c.1.2.2)/\In B w (n+1) c.2
theorem vk:Tryz.prog.cellsOf 64=5:=by kernel_rfl
theorem rH:Tryz.prog.cellsOf 33=7:=by kernel_rfl
theorem LP{H:Type}(enc:TypeId×au->H)(w:ag)(g:Nat->Bool)(n m:Nat)(A:m<=n)(cs:cX)(x:DataW H×List MemPlace)(r:DataW.trod enc Tryz.prog w 0 g true m 64 cs=some x):∃a:Sk n,cs=Qe n a/\JJ n w.heap.size w a/\Oe n a<=Rows.uptoBulk x.1:=by
 obtain⟨h,m,rfl,rfl,o,s,l⟩:=jC underlying64 r;have j:DataW.trod enc Tryz.prog w 0 g true m 9 ((cs.drop 0).take (Tryz.prog.cellsOf 9))=h[0]? :=l 0 _ rfl;have k:DataW.trod enc Tryz.prog w 0 g true m 31 ((cs.drop 1).take (Tryz.prog.cellsOf 31))=h[1]? :=l 1 _ rfl;rw[mg]at j;rw[kM]at k;rw[vk]at o;obtain⟨f,b,c,d,e,rfl⟩:∃f b c d e,cs=[f,b,c,d,e]:=by
  match cs,o with
  | [f,b,c,d,e],_=>exact⟨f,b,c,d,e,rfl⟩
 obtain⟨y0,y1,rfl⟩:∃y0 y1,h=[y0,y1]:=by
  match h,s with
  | [y0,y1],_=>exact⟨y0,y1,rfl⟩
 obtain⟨p,i,y,v⟩:=pL underlying9 (x:=y0) (by simpa using j);obtain⟨t,q,u,z⟩:=oe enc w g n m (by omega) [b,c,d,e] y1 (by simpa using k);simp at i;subst i y;refine⟨(p,t),?_,⟨v,u⟩,?_⟩
 ·show _=af p::iQ (n+1) t;rw[<-q]
 ·simp only[Oe,Rows.uptoBulk,Rows.uptoBulkAll,aV,cF];omega
theorem D5{H:Type}(enc:TypeId×au->H)(w:ag)(c:Nat->Bool)(n m:Nat)(N:m<=n)(cs:cX)(x:DataW H×List MemPlace)(C:DataW.trod enc Tryz.prog w 0 c true m 33 cs=some x):∃a:Hn n,cs=Qq n a/\Gw n w.heap.size w a/\Od n a<=Rows.uptoBulk x.1:=by
 obtain⟨d,m,rfl,rfl,A,D,p⟩:=jC underlying33 C;have u:DataW.trod enc Tryz.prog w 0 c true m 3 ((cs.drop 0).take (Tryz.prog.cellsOf 3))=d[0]? :=p 0 _ rfl;have v:DataW.trod enc Tryz.prog w 0 c true m 3 ((cs.drop 1).take (Tryz.prog.cellsOf 3))=d[1]? :=p 1 _ rfl;have y:DataW.trod enc Tryz.prog w 0 c true m 3 ((cs.drop 2).take (Tryz.prog.cellsOf 3))=d[2]? :=p 2 _ rfl;have z:DataW.trod enc Tryz.prog w 0 c true m 31 ((cs.drop 3).take (Tryz.prog.cellsOf 31))=d[3]? :=p 3 _ rfl;rw[vj]at u v y;rw[kM]at z;rw[rH]at A;obtain⟨j,l,o,e,f,g,h,rfl⟩:∃j l o e f g h,cs=[j,l,o,e,f,g,h]:=by
  match cs,A with
  | [j,l,o,e,f,g,h],_=>exact⟨j,l,o,e,f,g,h,rfl⟩
 obtain⟨y0,y1,y2,i,rfl⟩:∃y0 y1 y2 i,d=[y0,y1,y2,i]:=by
  match d,D with
  | [y0,y1,y2,i],_=>exact⟨y0,y1,y2,i,rfl⟩
 obtain⟨k,q,J,F⟩:=jB underlying3 (x:=y0) (by simpa using u);obtain⟨a,r,K,G⟩:=jB underlying3 (x:=y1) (by simpa using v);obtain⟨b,s,L,I⟩:=jB underlying3 (x:=y2) (by simpa using y);obtain⟨t,B,E,M⟩:=oe enc w c n m (by omega) [e,f,g,h] i (by simpa using z);simp at q r s;subst q r s J K L;refine⟨((k,a,b),t),?_,⟨⟨AT F,AT G,AT I⟩,E⟩,?_⟩
 ·show _=ab k::ab a::ab b::iQ (n+1) t;rw[<-B]
 ·simp only[Od,Rows.uptoBulk,Rows.uptoBulkAll,aV,cF];omega
theorem Cn{H:Type}{enc:TypeId×au->H}{W:ag}{r:Reach}{g:Nat}{v:au}{d:DataW H}{p:List MemPlace}(u:Value.okWide Tryz.prog W r g 23 v)(b:DataW.Trod enc Tryz.prog W 0 (λ_=>true) true 23 v d p):∃n,∃l:List (Sk n),∃a c,v=ae a l.length c/\l.length<=c/\c<=maxLen/\qz W.heap.size W 5 (Qe n) (JJ n W.heap.size W) a l/\(l.map (Oe n)).sum<=Rows.uptoBulk d:=by
 obtain⟨a,len,cap,rfl⟩:=okWide_slice underlying23 u;obtain⟨f,q⟩:=b;have s:DataW.trod enc Tryz.prog W 0 (λ_=>true) true f 23 [ae a len cap]=some (d,p):=q;obtain⟨e,l,c,i,j,k,m,o⟩:=wI enc W (λ_=>true) 5 (Qe f) (JJ f W.heap.size W) (Oe f) 64 23 underlying23 vk (by omega) (λ_=>rfl) f (λw h x t b=>LP enc W _ f w t h x b) f (av _) _ _ s;exact⟨f,l,e,c,i,j,k,m,by simp only at o;omega⟩
theorem Al{H:Type}{enc:TypeId×au->H}{W:ag}{r:Reach}{g:Nat}{v:au}{d:DataW H}{p:List MemPlace}(u:Value.okWide Tryz.prog W r g 24 v)(b:DataW.Trod enc Tryz.prog W 0 (λ_=>true) true 24 v d p):∃n,∃l:List (Hn n),∃a c,v=ae a l.length c/\l.length<=c/\c<=maxLen/\qz W.heap.size W 7 (Qq n) (Gw n W.heap.size W) a l/\(l.map (Od n)).sum<=Rows.uptoBulk d:=by
 obtain⟨a,len,cap,rfl⟩:=okWide_slice underlying24 u;obtain⟨f,q⟩:=b;have s:DataW.trod enc Tryz.prog W 0 (λ_=>true) true f 24 [ae a len cap]=some (d,p):=q;obtain⟨e,l,c,i,j,k,m,o⟩:=wI enc W (λ_=>true) 7 (Qq f) (Gw f W.heap.size W) (Od f) 33 24 underlying24 rH (by omega) (λ_=>rfl) f (λw h x t b=>D5 enc W _ f w t h x b) f (av _) _ _ s;exact⟨f,l,e,c,i,j,k,m,by simp only at o;omega⟩
theorem Cq{b:Type}(f:b->Nat)(l:List b)(y:b)(a:y∈l):f y<=(l.map f).sum:=by
 induction l with
 | nil=>cases a
 | cons c l ih=>
  simp only[aV,bR];rcases cY.1 a with rfl|a
  ·omega
  ·have:=ih a;omega
theorem wu{b:Type}(f:b->Nat)(a:∀y,1<=f y):(l:List b)->l.length<=(l.map f).sum
 | []=>aM _
 | y::l=>by
  have:=wu f a l;have:=a y;simp only[aV,bR,bA];omega
theorem KJ{d:Type}{B k:Nat}{f:d->List au}{e:d->Prop}{a:ar}{l:List d}{w:ag}(b:qz B w k f e a l){j:Nat}{y:d}(c:l[j]?=some y):∃g o,a=some ⟨g,o,none⟩/\g<B/\(∀(t:Nat)(h:au),(f y)[t]?=some h->ai w g (o+j*k+t) h)/\e y:=by
 rcases b with b|⟨g,o,i,m,b⟩
 ·rw[b]at c;simp at c
 ·exact⟨g,o,i,m,(b j y c).1,(b j y c).2⟩
theorem KA{a:Type}(l:List a)(d:a):∃b:Nat->a,∀j,j<l.length->l[j]?=some (b j):=⟨λj=>l.getD j d,λj c=>by
 simp only[nz,aN c]
 rfl⟩
section
variable (n:Nat) (l:List (Bh (n+1))) (room:Int)
def vg{m:Nat}(a:List (Sk m)):Sy:=a.foldl (λs c=>(s.start n l room c.1 (m+1) c.2).1) Mx
def uU(B:Nat)(i:Nat)(p:lG)(s:Sy)(d:gE)(W:ag):Prop:=bC p s d W/\(p.room=room/\aB (p.n+6) (cm p.n p.prog) (n+6) (cm n l)=true)/\qh s/\(d.k<=i*402/\d.es.length<=i*201/\d.wn<=i*201/\d.bn<=i*201)/\B<=p.lo
end
theorem bC.nobody{p:lG}{s:Sy}{d:gE}{w:ag}(b:bC p s d w){q:Nat}(c:w.heap.size<=q):d.ow q=0:=by
 by_cases a:d.ow q=0
 ·exact a
 ·have:=(b.low q a).2;omega
section
variable {n:Nat} {l:List (Bh (n+1))} {room:Int} {w0 W:ag} {R:aO} {H:Nat->Obj} {ia ib sa sb:Nat} {s t:Sy}
theorem uU.later{B i:Nat}{p:lG}{d:gE}{a:ag}(b:uU n l room B i p s d W)(c:am W a):uU n l room B i p s d a:=⟨b.1.later c,b.2⟩
theorem uU.do_eq{B i:Nat}{p:lG}{d:gE}(c:uU n l room B i p s d W)(e:mK n l=0)(kd a b:Int)(k:Nat)(x:Tm k):s.do p.n p.prog p.room kd a b k x=s.do n l room kd a b k x:=by
 rw[c.2.1.1];exact FM c.2.1.2 c.1.pg.2.2.2.1 e c.1.sound ⟨c.1.keys.2.2.2.1,c.1.keys.2.2.2.2.1⟩ room kd a b k x
end
theorem C6(n:Nat)(l:List (Bh (n+1)))(F:ar)(z:Nat)(room:Int)(A:Nat)(f:List (Sk A))(sa:ar)(sc:Nat)(w W:ag)(Y:gL (n+1) W.heap.size W F l)(Z:l.length<=z)(ad:z<=maxLen)(X:kT (n+1) l=true->(aC (n+6) (cm n l)).length<=2097152)(af:qz w.heap.size w 5 (Qe A) (JJ A w.heap.size w) sa f)(ah:∀c∈f,(aC (A+1) c.2).length<=2097152)(ay:f.length<=1048576)(M:am w W):ao 6 #[ae F l.length z,ab room,ae sa f.length sc] W λe w'=>(e=.returned (.pointer none)/\Hid ((mA n l room≠0\/4<f.length)/\am W w'))\/∃j,e=.returned (aH j)/\Hid (¬(mA n l room≠0\/4<f.length)/\am W w'/\∃p d,p.b=j/\uU n l room W.heap.size 4 p (vg n l room f) d w'):=by
 obtain⟨i,J⟩:=KA f (⟨#[]⟩,((0,0,⟨#[]⟩),(none,0),[]));have aa:(maxLen:Nat)=9223372036854775807:=rfl;have al:=M.size;have v:∀{W:ag}{m o:Nat}{g:au},am w W->m<w.heap.size->ai w m o g->ai W m o g:=λ{W m o g} k r t=>(k.cell (p:=⟨m,o,none⟩) r).trans t;refine(DF F l.length z room sa f.length sc (λa=>(i a).1) (λa=>(i a).2.1.2.2) (λa=>(i a).2.1.1) (λa=>(i a).2.1.2.1) (λa=>(i a).2.2.1.1) (λa=>(i a).2.2.2.length) (λa=>(i a).2.2.1.2) W (λg G h=>OU n l room W g G h) (λj a h=>(f.length<=4/\mA n l room=0)/\am W h/\∃p d,p.b=j/\uU n l room W.heap.size a p (vg n l room (f.take a)) d h) (λg h=>(g=.pointer none/\(mA n l room≠0\/4<f.length)/\am W h)\/∃j,g=aH j/\¬(mA n l room≠0\/4<f.length)/\am W h/\∃p d,p.b=j/\uU n l room W.heap.size 4 p (vg n l room f) d h) (by omega) (CT n l F z room W Y Z ad X) (λg G h s P=>?_) (λg h s B=>?_) (λj a h K I=>?_) λj h I=>?_).mono ?_
 ·exact aj ⟨rfl,by rw[s.1]at P;exact P,s.2.1⟩
 ·obtain⟨p,d,rfl,Q,⟨ap,R,aq,az⟩,av,aA,aB,aw⟩:=s.2.2.2 rfl;exact⟨p.b,rfl,⟨B,s.1.symm⟩,s.2.1,p,d,rfl,Q,⟨av,aw⟩,λ_ t=>(by cases t),⟨by omega,by rw[R];exact aM _,by omega,by omega⟩,by omega⟩
 ·obtain⟨B,k,p,d,rfl,x,y,E,an,D⟩:=I;obtain⟨m,o,V,r,u,L⟩:=KJ af (J a K);have q:=M.trans (k.mono al);refine⟨m,o,⟨V,v q r (u 0 _ rfl),v q r (u 1 _ rfl),v q r (u 2 _ rfl),v q r (u 3 _ rfl),v q r (u 4 _ rfl)⟩,λax C=>?_⟩;have N:=q.trans (C.mono q.size);refine((x.later C).start (i a).1 (aF L.1 (dT aa)) (i a).2 ((L.2.below N).mono N.size) (ah _ (aL (J a K))) (by omega) (by omega)).mono ?_;rintro e w' ⟨g,G,rfl,H⟩;obtain⟨_,U,S,T⟩:=H.out;have O:vg n l room (f.take (a+1))=((vg n l room (f.take a)).start p.n p.prog p.room (i a).1 (A+1) (i a).2).1:=by
   rw[y.1,wR y.2];unfold vg;rw[dF,J a K,Option.toList_some,jF];rfl
  rw[<-O]at S;refine⟨g,G,rfl,B,(k.trans (C.mono k.size)).trans (sD (x.later C) T D),p,U,rfl,S,y,?_,by obtain⟨_,_,Q,ap,R,aq⟩:=T;omega,D⟩;rw[O];exact E.start _ _ _
 ·obtain⟨B,k,p,d,rfl,x,y,E,an,D⟩:=I;rw[List.take_length]at x E;exact ak ⟨_,rfl,by omega,k,p,d,rfl,x,y,E,by omega,D⟩
 ·rintro e w' ⟨g,rfl,H⟩;rcases H with⟨rfl,k⟩|⟨j,rfl,t⟩
  ·exact aj ⟨rfl,k⟩
  ·exact ak ⟨j,rfl,t⟩
theorem C0(g:Nat)(u:da)(a:Int)(nm:aq)(l:au)(L:Nat)(w:ag)(K:Int->Int->aq->ar->Nat->Nat->bt)(J:Int->Int->aq->ar->Nat->Nat->ar->Nat->bt)(P:g<w.heap.size)(A:Hid (ai w g 3 (.map u)))(B:Hid (∀W,am w W->(Instr.lookup 67 (.map u) (ab a) true).run Tryz.prog W=.ok (.tuple #[l,.bool true]) W))(E:Hid (∀W,am w W->ao 33 #[l] W λe w'=>e=.returned (af nm)/\am W w'))(F:Hid (∀W,am w W->w.heap.size<W.heap.size->ao 34 #[l] W λe w'=>∃y0 y1 y2 ya yl yc,e=.returned (.agg #[ab y0,ab y1,af y2,ae ya yl yc])/\Hid (am W w'/\K y0 y1 y2 ya yl yc w')))(C:Hid (∀y0 y1 y2 ya yl yc W,am w W->w.heap.size<W.heap.size->K y0 y1 y2 ya yl yc W->ao 35 #[l] W λe w'=>∃ma d,e=.returned (ae ma L d)/\Hid (am W w'/\∀I,bE (λq=>q=w.heap.size) w' I->J y0 y1 y2 ya yl yc ma d I))):ao 15 #[aH g,ab a] w λe w'=>∃y0 y1 y2 ya yl yc ma d,e=.returned (.tuple #[af nm,.agg #[ab y0,ab y1,af y2,ae ya yl yc],ae ma L d,ab 0])/\Hid (J y0 y1 y2 ya yl yc ma d w'/\am w w'):=by
 go_enter func15,ntmps15;go_upto_region 1 with fail;generalize t:w.alloc _=x;have HB:Hid (am w x):=by
  rw[<-t];exact aS _ _
 have G:Hid (x.heap[w.heap.size]?=some (.cells #[ab 0,ab 0,af ⟨#[]⟩,ae none 0 0] 31)):=by
  rw[<-t];exact aD _ _
 clear t;have O:=B _ HB;have N:ai x g 3 (.map u):=(HB.cell (p:=⟨g,3,none⟩) P).trans A;clear B A;go_wp2_with fail;refine(E _ HB).mono ?_;rintro e Q ⟨rfl,r⟩;have j:=ap (HB.trans (r.mono HB.size));have m:=ap (dv r G);clear r E O N HB G;go_wp2_with fail;refine(F _ j (aI.1 m).1).mono ?_;rintro e R ⟨y0,y1,y2,ya,yl,yc,rfl,h⟩;have k:=ap (j.trans (h.1.mono j.size));have n:=ap (dv h.1 m);have D:=ap (C _ _ _ _ _ _ _ k (aI.1 n).1 h.2);clear C h F j m;go_wp2_with fail;refine D.mono ?_;rintro e b ⟨ma,d,rfl,i⟩;have y:=ap (k.trans (i.1.mono k.size));have c:=dv i.1 n;have H:=ap (i.2 _ (oK b w.heap.size 0 (ab y0) (ab y1) (af y2) (ae ya yl yc)));have z:Hid (am w (df b w.heap.size 0 (ab y0) (ab y1) (af y2) (ae ya yl yc))):=(dW (o:=0) (v0:=ab y0) (v1:=ab y1) (v2:=af y2) (v3:=ae ya yl yc) y (av _));have f:=ap (te c (ab y0) (ab y1) (af y2) (ae ya yl yc));obtain⟨q,s⟩:∃q,q=w.heap.size:=⟨_,rfl⟩;rw[<-s]at c f z H ⊢;have M:=ap s;clear s;have S:ai b q 0 (ab 0):=ah c 0;have T:ai b q 1 (ab 0):=ah c 1;have U:ai b q 2 (af ⟨#[]⟩):=ah c 2;have V:ai b q 3 (ae none 0 0):=ah c 3;have f0:b.frozen? ⟨q,0,none⟩=false:=by simp[World.frozen?,c]
 have f1:b.frozen? ⟨q,1,none⟩=false:=by simp[World.frozen?,c]
 have f2:b.frozen? ⟨q,2,none⟩=false:=by simp[World.frozen?,c]
 have f3:b.frozen? ⟨q,3,none⟩=false:=by simp[World.frozen?,c]
 clear c i D n k y;go_wp2_with fail;have d0:(df b q 0 (ab y0) (ab y1) (af y2) (ae ya yl yc)).cell? ⟨q,0,none⟩=some (ab y0):=ah f 0;have d1:(df b q 0 (ab y0) (ab y1) (af y2) (ae ya yl yc)).cell? ⟨q,1,none⟩=some (ab y1):=ah f 1;have d2:(df b q 0 (ab y0) (ab y1) (af y2) (ae ya yl yc)).cell? ⟨q,2,none⟩=some (af y2):=ah f 2;have d3:(df b q 0 (ab y0) (ab y1) (af y2) (ae ya yl yc)).cell? ⟨q,3,none⟩=some (ae ya yl yc):=ah f 3;simp only[df,cT]at d0 d1 d2 d3;exact ay (v:=.tuple #[af nm,.agg #[ab y0,ab y1,af y2,ae ya yl yc],ae ma L d,ab 0]) (by simp[results,results15,go_sem,d0,d1,d2,d3]) rfl ⟨y0,y1,y2,ya,yl,yc,ma,d,rfl,H,M.out▸z.out⟩
def oz(t:Tc)(B:Nat)(y0 y1:Int)(y2:aq)(ya:ar)(yl yc:Nat)(W:ag):Prop:=∃(m:Nat)(x:Tm (m+1)),(x.1=(y0,y1,y2)/\x.2.1=(ya,yc)/\x.2.2.length=yl)/\aB (m+1) x 13 t=true/\In W.heap.size W (m+1) x/\cD (λq=>B<=q/\q<W.heap.size) (m+1) x
theorem oz.kee{t:Tc}{B:Nat}{y0 y1:Int}{y2:aq}{ya:ar}{yl yc:Nat}{W b:ag}(d:oz t B y0 y1 y2 ya yl yc W){S:aO}(c:bE S W b)(i:∀q,B<=q->q<W.heap.size->¬S q):oz t B y0 y1 y2 ya yl yc b:=by
 obtain⟨j,x,e,f,g,h⟩:=d;have:=eJ c (D:=λq=>B<=q/\q<W.heap.size) (λq a=>i q a.1 a.2) ⟨g,h⟩;exact⟨j,x,e,f,this.1,this.2.mono λq a=>⟨a.1,aW a.2 c.size⟩⟩
def rv(a:List Tc)(B:Nat)(ma:ar)(W:ag):Prop:=∃ys:List Tc,ys.length=a.length/\fZ W.heap.size W 13 ys ma/\ys.map (cn 13)=a/\(∀y∈ys,bJ 13 y=0/\cD (λq=>B<=q) 13 y)/\∀g o,ma=some ⟨g,o,none⟩->B<=g
theorem rv.kee{f:List Tc}{B:Nat}{ma:ar}{W b:ag}(v:rv f B ma W){S:aO}(e:bE S W b)(k:∀q,B<=q->q<W.heap.size->¬S q):rv f B ma b:=by
 obtain⟨F,A,C,E,n,m⟩:=v;refine⟨F,A,?_,E,n,m⟩;rcases C with s|⟨a,o,t,c,u⟩
 ·exact aj s
 ·subst t;have x:=m a o rfl;refine ak ⟨a,o,rfl,aW c e.size,λz p l=>?_⟩;have w:b.heap[a]?=W.heap[a]? :=e.block a c (k a x c);have d:=u z p l;have y:=eJ e (D:=λq=>B<=q/\q<W.heap.size) (λq r=>k q r.1 r.2) ⟨d.2,In.offB (n p (aL l)).2 d.2⟩;refine⟨?_,y.1⟩;obtain⟨g,h,i,j⟩:=d.1;simp only[World.cell?,<-w]at g h i j;exact⟨g,h,i,j⟩
section
variable {p:lG} {s:Sy} {d:gE} {w:ag}
theorem bC.procC(m:bC p s d w){a:Int}{nm:aq}{cs:Tc}{f:List Tc}(G:s.get a=some (nm,cs,f))(T:nm.size<=2048)(ak:d.k<=47000):ao 15 #[aH p.b,ab a] w λe w'=>∃y0 y1 y2 ya yl yc ma i,e=.returned (.tuple #[af nm,.agg #[ab y0,ab y1,af y2,ae ya yl yc],ae ma f.length i,ab 0])/\Hid (((oz cs w.heap.size y0 y1 y2 ya yl yc w'/\rv f w.heap.size ma w')/\f.length<=i)/\am w w'):=by
 obtain⟨n,H⟩:∃n,dl d.l a=some n:=by
  have:=m.alive a;rw[G]at this;exact gw.1 this
 obtain⟨Z,L,K,D,v,aj⟩:=m.ps a n H;rw[G]at D;obtain⟨rfl,rfl,rfl⟩:nm=Z/\cs=L/\f=K:=by simpa using D
 refine C0 p.b d.po a nm (AX n) f.length w (λy0 y1 y2 ya yl yc h=>oz cs (w.heap.size+1) y0 y1 y2 ya yl yc h) (λy0 y1 y2 ya yl yc ma i w'=>(oz cs w.heap.size y0 y1 y2 ya yl yc w'/\rv f w.heap.size ma w')/\f.length<=i) m.lo.2 m.cells.2.2.2 (λh g=>?_) (λh g=>(v.later g).sname T) (λh g S=>?_) λy0 y1 y2 ya yl yc h g S R=>?_
 ·have:=(m.later g).look a true;rw[if_pos rfl,H]at this;exact this
 ·refine((v.later g).state (by omega)).mono ?_;rintro e w' ⟨c,rfl,t⟩;obtain⟨M,E,N,O,P⟩:=t.out;refine⟨c.1.1,c.1.2.1,c.1.2.2,c.2.1.1,c.2.2.length,c.2.1.2,rfl,M,12,c,⟨rfl,rfl,rfl⟩,?_,E,(In.offB N E).mono λq j=>⟨by omega,j.2⟩⟩;rw[<-P];exact dX _ _ _ _ (eI O)
 ·refine((v.later g).mails2 (by omega) (by omega)).mono ?_;rintro e w' ⟨C,ma,i,rfl,t⟩;obtain⟨V,y,W,X,J,Y⟩:=t;have al:=y.size;refine⟨ma,i,rfl,y,λai F=>⟨⟨?_,?_⟩,J.2⟩⟩
  ·obtain⟨U,x,z,A,B,r⟩:=(R.kee (aR y λ_=>False) λ_ _ _ j=>j).kee F λq ad ag ah=>by omega
   exact⟨U,x,z,A,B,r.mono λq j=>⟨by omega,j.2⟩⟩
  ·have Q:rv f h.heap.size ma w':=⟨C,V,W,X,Y,λu o e=>J.1 u (by rw[e];rfl)⟩;obtain⟨C,z,A,B,r,aa⟩:=Q.kee F λq ad ag ah=>by omega
   exact⟨C,z,A,B,λc I=>⟨(r c I).1,(r c I).2.mono λq j=>by omega⟩,λu o e=>by have:=aa u o e;omega⟩
theorem bC.procS(h:bC p s d w){a:Int}{nm:aq}{cs:Tc}{c:List Tc}(i:s.get a=some (nm,cs,c))(l:nm.size<=2048)(j:d.k<=47000):ao 15 #[aH p.b,ab a] w λe w'=>∃y0 y1 y2 ya yl yc ma f,e=.returned (.tuple #[af nm,.agg #[ab y0,ab y1,af y2,ae ya yl yc],ae ma c.length f,ab 0])/\Hid ((oz cs w.heap.size y0 y1 y2 ya yl yc w'/\rv c w.heap.size ma w')/\am w w'):=by
 refine(h.procC i l j).mono ?_;rintro e w' ⟨y0,y1,y2,ya,yl,yc,ma,f,rfl,g⟩;exact⟨y0,y1,y2,ya,yl,yc,ma,f,rfl,g.out.1.1,g.out.2⟩
end
def OE(base m:Nat)(k:aY)(l:cX)(R:bt)(W:ag):Prop:=
 ∃(sa:ar)(a sc:Nat)(j:cX),a<=100000/\base<=W.heap.size/\∀e,am W e->∃(h:Nat)(d:ag),(Instr.mapEntry 51 (.map (some m)) (pk k)).run Tryz.prog e=.ok (.tuple #[ae sa a sc,goInt h]) d/\d.heap.size=e.heap.size/\(∀b,b≠m->d.heap[b]?=e.heap[b]?)/\
  d.ownsRow base 31 4 (ae sa a sc) a j/\∀f c g,d.grownBy g (Value.slice sa a sc).ownBlock->g.ownsRow base 31 4 (ae (some ⟨f,0,none⟩) (a+1) c) (a+1) (j++l)->((Value.slice sa a sc).ownBlock=some f\/f=d.heap.size)->
   ∃i,(Instr.entryStore 51 (.map (some m)) (goInt h) (ae (some ⟨f,0,none⟩) (a+1) c)).run Tryz.prog g=.ok () i/\R i
theorem OZ{base m n N:Nat}{f:aY->List (Tm N)}{sl:aY->au}{W:ag}(a:GM base m n N f sl W){k:aY}(e:I2 k)(M:n<999999)(D:(f k).length<=100000){y:Tm N}{R:bt}(z:∀g,ON base m n N f sl k y W g->R g):OE base m k (uk (gK N y)) R W:=by
 obtain⟨sa,sc,j⟩:∃u c,sl k=.slice u (f k).length c:=by
  rcases(a.row k e).2 with⟨d,v⟩|⟨w,c,J,d,_⟩
  ·have:(f k).length=0:=v;exact⟨none,0,by rw[d,this]⟩
  ·exact⟨_,c,d⟩
 have K:=a.lt m (aj rfl);refine⟨sa,(f k).length,sc,dw N (f k),D,by omega,λt h=>?_⟩;obtain⟨I,o,r,l,s,A⟩:=a.open e (by omega) h;rw[j]at r;have H:o.ownsRow base 31 4 (.slice sa (f k).length sc) (f k).length (dw N (f k)):=by
  have x:=bB (bB (a.row k e) (aR h λ_=>False) λ_ _ B=>B) l λb i d=>a.ne e (by rw[i,d]);rwa [j]at x
 refine⟨I,o,r,s,λb i=>?_,H,λw c O q F p=>?_⟩
 ·by_cases E:b<t.heap.size
  ·exact l.block b E i
  ·rw[Array.getElem?_eq_none (by omega),Array.getElem?_eq_none (by omega)]
 ·rw[<-j]at q p;obtain⟨g,G,C,_⟩:=Oi.done a e A h l s (aA _ _) q (y:=y) (L:=(f k).length) rfl F p;exact⟨g,G,z g C⟩
def Fz(V:aO)(W a:ag):Prop:=W.heap.size<=a.heap.size/\∀b,V b->b<W.heap.size->a.heap[b]?=W.heap[b]?
theorem Fz.trans{V:aO}{W c d:ag}(a:Fz V W c)(k:Fz V c d):Fz V W d:=⟨aF a.1 k.1,λb e f=>(k.2 b e (aW f a.1)).trans (a.2 b e f)⟩
theorem gN{V:aO}{W a:ag}(c:am W a):Fz V W a:=⟨c.size,λb _ d=>c.block b d⟩
theorem zV{V S:aO}{W a:ag}(c:bE S W a)(d:∀b,V b->¬S b):Fz V W a:=⟨c.size,λb e f=>c.block b f (d b e)⟩
def Gu(V:aO)(a:ar)(d:List (aq×Int×Int×Tc))(W:ag):Prop:=
 (d=[]\/∃c,a=some ⟨c,0,none⟩/\V c/\c<W.heap.size/\∀e b,d[e]?=some b->∀(t:Nat)(f:au),(DR b)[t]?=some f->W.cell? ⟨c,e*7+t,none⟩=some f)/\∀b∈d,(In W.heap.size W 13 b.2.2.2/\cD V 13 b.2.2.2)/\nR b.2.2.2
theorem Ou{V:aO}{W c:ag}(d:Fz V W c){n:Nat}{x:Tm n}(a:In W.heap.size W n x/\cD V n x):In c.heap.size c n x/\cD V n x:=
 ⟨(In.off (P:=λb=>V b/\b<W.heap.size) (λb e=>d.2 b e.1 e.2) (In.offB a.2 a.1) a.1).mono d.1,a.2⟩
theorem Gu.fz{V:aO}{a:ar}{h:List (aq×Int×Int×Tc)}{W g:ag}(d:Gu V a h W)(f:Fz V W g):Gu V a h g:=by
 refine⟨?_,λb c=>⟨Ou f (d.2 b c).1,(d.2 b c).2⟩⟩;rcases d.1 with e|⟨i,e,j,k,l⟩
 ·exact aj e
 ·refine ak ⟨i,e,j,aW k f.1,λn b c t o m=>?_⟩;rw[<-l n b c t o m];simp only[World.cell?,f.2 i j k]
theorem Fu.x{base:Nat}{a:ar}{f:List (aq×Int×Int×Tc)}{W:ag}(b:Fu base a f W){V:aO}(i:∀q,base<=q->q<W.heap.size->V q):Gu V a f W:=by
 refine⟨?_,λc d=>⟨⟨(b.2 c d).1.1,(In.offB (b.2 c d).1.2 (b.2 c d).1.1).mono λq j=>i q j.1 j.2⟩,(b.2 c d).2⟩⟩;rcases b.1 with e|⟨g,e,k,h,l⟩
 ·exact aj e
 ·exact ak ⟨g,e,i g k h,h,l⟩
def Gy(V:aO)(a:List Tc)(ma:ar)(W:ag):Prop:=∃ys:List Tc,ys.length=a.length/\(ys=[]\/∃g o,ma=some ⟨g,o,none⟩/\V g/\g<W.heap.size/\∀i y,ys[i]?=some y->dH W g (o+i*4) 13 y)/\ys.map (cn 13)=a/\∀y∈ys,bJ 13 y=0/\In W.heap.size W 13 y/\cD V 13 y
theorem Ni{V:aO}{W a:ag}(j:Fz V W a){g o:Nat}{y:Tc}(f:V g/\g<W.heap.size)(i:dH W g o 13 y):dH a g o 13 y:=by
 obtain⟨b,c,d,e⟩:=i;have h:=j.2 g f.1 f.2;simp only[World.cell?,<-h]at b c d e;exact⟨b,c,d,e⟩
theorem Gy.fz{V:aO}{e:List Tc}{ma:ar}{W d:ag}(m:Gy V e ma W)(c:Fz V W d):Gy V e ma d:=by
 obtain⟨s,n,p,q,h⟩:=m;refine⟨s,n,?_,q,λb a=>⟨(h b a).1,Ou c (h b a).2⟩⟩;rcases p with i|⟨l,o,j,f,g,k⟩
 ·exact aj i
 ·exact ak ⟨l,o,j,f,aW g c.1,λr b a=>Ni c ⟨f,g⟩ (k r b a)⟩
theorem rv.x{j:List Tc}{B:Nat}{ma:ar}{W:ag}(s:rv j B ma W){V:aO}(k:∀q,B<=q->q<W.heap.size->V q):Gy V j ma W:=by
 obtain⟨n,t,l,u,m,v⟩:=s;have c:∀a∈n,In W.heap.size W 13 a:=λa b=>by
  obtain⟨i,c,e⟩:=List.getElem_of_mem b;rcases l with r|⟨d,o,f,g,h⟩
  ·rw[r]at c;exact absurd c (by simp)
  ·exact(h i a (by rw[aN c,e])).2
 refine⟨n,t,?_,u,λa b=>⟨(m a b).1,c a b,(In.offB (m a b).2 (c a b)).mono λq p=>k q p.1 p.2⟩⟩;rcases l with e|⟨d,o,f,g,h⟩
 ·exact aj e
 ·exact ak ⟨d,o,f,k d (v d o f) g,g,λi a b=>(h i a b).1⟩
structure GA (B:Nat) (ow:Nat->Int) (m1 m2 c1 c2:Nat) (f:aY->List Tc) (sl:aY->au) (g:aY->Nat) (W:ag):Prop where
 sent:GM B m1 c1 13 f sl W
 gone:CM m2 c2 g W
 ne:∀b,zW m1 sl b->ow b=0/\b≠m2
 low:B<=m2/\ow m2=0
 own:∀k,I2 k->∀y∈f k,(In W.heap.size W 13 y/\cD (λb=>ow b=0/\¬zW m1 sl b/\b≠m2) 13 y)/\nR y
section
variable {B m1 m2 c1 c2:Nat} {ow ow':Nat->Int} {f:aY->List Tc} {sl:aY->au} {g:aY->Nat} {W W':ag}
theorem GA.sys(a:GA B ow m1 m2 c1 c2 f sl g W)(h:bE (λq=>ow q≠0) W W')(i:∀q,q<W.heap.size->ow' q=ow q):GA B ow' m1 m2 c1 c2 f sl g W':=by
 refine⟨a.sent.kee h λb c d=>d (a.ne b c).1,a.gone.kept (h.block m2 a.gone.lt λd=>d a.low.2),λb c=>⟨(i b (a.sent.lt b c).2).trans (a.ne b c).1,(a.ne b c).2⟩,⟨a.low.1,(i m2 a.gone.lt).trans a.low.2⟩,λk m d n=>?_⟩;obtain⟨e,l⟩:=a.own k m d n;have j:=eJ h (D:=λb=>(ow b=0/\¬zW m1 sl b/\b≠m2)/\b<W.heap.size) (λb c q=>q c.1.1) ⟨e.1,In.offB e.2 e.1⟩;exact⟨⟨j.1,j.2.mono λb c=>⟨(i b c.2).trans c.1.1,c.1.2⟩⟩,l⟩
theorem GA.later(a:GA B ow m1 m2 c1 c2 f sl g W)(b:am W W'):GA B ow m1 m2 c1 c2 f sl g W':=a.sys (aR b _) λ_ _=>rfl
theorem GA.app(e:GA B ow m1 m2 c1 c2 f sl g W){k:aY}{y:Tc}(w:I2 k)(u:(In W.heap.size W 13 y/\cD (λb=>ow b=0/\¬zW m1 sl b/\b≠m2) 13 y)/\nR y)(t:∀q,W.heap.size<=q->ow q=0)(r:ON B m1 c1 13 f sl k y W W'):∃o,GA B ow m1 m2 (c1+1) c2 (fK f k (f k++ [y])) o g W'/\bE (zW m1 sl) W W'/\∀b,zW m1 o b->zW m1 sl b\/W.heap.size<=b:=by
 obtain⟨p,v,j,l⟩:=r;have s:=e.gone.lt;have h:∀a,(In W.heap.size W 13 a/\cD (λb=>ow b=0/\¬zW m1 sl b/\b≠m2) 13 a)/\nR a->(In W'.heap.size W' 13 a/\cD (λb=>ow b=0/\¬zW m1 (fK sl k p) b/\b≠m2) 13 a)/\nR a:=λa d=>by
  have m:=eJ j (D:=λb=>(ow b=0/\¬zW m1 sl b/\b≠m2)/\b<W.heap.size) (λb q=>q.1.2.1) ⟨d.1.1,In.offB d.1.2 d.1.1⟩;exact⟨⟨m.1,m.2.mono λb q=>⟨q.1.1,λc=>by rcases l b c with c|c;exact q.1.2.1 c;exact absurd q.2 (by omega),q.1.2.2⟩⟩,d.2⟩
 refine⟨fK sl k p,⟨v,e.gone.kept (j.block m2 s λa=>(e.ne m2 a).2 rfl),λb a=>?_,e.low,λi n a d=>?_⟩,j,l⟩
 ·rcases l b a with c|c
  ·exact e.ne b c
  ·exact⟨t b c,by omega⟩
 ·by_cases c:i=k
  ·subst c;rw[cE]at d;rcases de.1 d with q|q
   ·exact h a (e.own i n a q)
   ·rw[dC.1 q];exact h y u
  ·rw[bK _ _ c]at d;exact h a (e.own i n a d)
theorem GA.cnt(a:GA B ow m1 m2 c1 c2 f sl g W){e:aY->Nat}{c:Nat}(h:bE (λb=>b=m2) W W')(l:CM m2 c e W'):GA B ow m1 m2 c1 c f sl e W':=by
 refine⟨a.sent.kee h λb d=>(a.ne b d).2,l,a.ne,a.low,λk m o n=>?_⟩;obtain⟨i,j⟩:=a.own k m o n;exact⟨eJ h (λb d=>d.2.2) i,j⟩
end
theorem CZ(g:Nat)(j:da)(a:Int)(w:ag)(q:g<w.heap.size)(l:Hid (ai w g 3 (.map j)))(m:Hid (∀W,am w W->(Instr.lookup 67 (.map j) (ab a) true).run Tryz.prog W=.ok (.tuple #[.pointer none,.bool false]) W)):ao 15 #[aH g,ab a] w λe w'=>e=.returned (.tuple #[af ⟨#[]⟩,.agg #[ab 0,ab 0,af ⟨#[]⟩,ae none 0 0],ae none 0 0,ab 4])/\am w w':=by
 go_enter func15,ntmps15;go_upto_region 1 with fail;generalize i:w.alloc _=c;have HB:Hid (am w c):=by
  rw[<-i];exact aS _ _
 have d:c.heap[w.heap.size]?=some (.cells #[ab 0,ab 0,af ⟨#[]⟩,ae none 0 0] 31):=by
  rw[<-i];exact aD _ _
 clear i;have s:=m.out _ HB.out;have r:ai c g 3 (.map j):=(HB.out.cell (p:=⟨g,3,none⟩) q).trans l.out;clear m l;have k:Hid (am w (df c w.heap.size 0 (ab 0) (ab 0) (af ⟨#[]⟩) (ae none 0 0))):=(dW (o:=0) (v0:=ab 0) (v1:=ab 0) (v2:=af ⟨#[]⟩) (v3:=ae none 0 0) HB.out (av _));have f:=ap (te d (ab 0) (ab 0) (af ⟨#[]⟩) (ae none 0 0));obtain⟨b,h⟩:∃b,b=w.heap.size:=⟨_,rfl⟩;rw[<-h]at d f k ⊢;have n:=ap h;clear h HB;have t:ai c b 0 (ab 0):=ah d 0;have u:ai c b 1 (ab 0):=ah d 1;have x:ai c b 2 (af ⟨#[]⟩):=ah d 2;have y:ai c b 3 (ae none 0 0):=ah d 3;have f0:c.frozen? ⟨b,0,none⟩=false:=by simp[World.frozen?,d]
 have f1:c.frozen? ⟨b,1,none⟩=false:=by simp[World.frozen?,d]
 have f2:c.frozen? ⟨b,2,none⟩=false:=by simp[World.frozen?,d]
 have f3:c.frozen? ⟨b,3,none⟩=false:=by simp[World.frozen?,d]
 clear d;go_wp2_with fail;have d0:(df c b 0 (ab 0) (ab 0) (af ⟨#[]⟩) (ae none 0 0)).cell? ⟨b,0,none⟩=some (ab 0):=ah f.out 0;have d1:(df c b 0 (ab 0) (ab 0) (af ⟨#[]⟩) (ae none 0 0)).cell? ⟨b,1,none⟩=some (ab 0):=ah f.out 1;have d2:(df c b 0 (ab 0) (ab 0) (af ⟨#[]⟩) (ae none 0 0)).cell? ⟨b,2,none⟩=some (af ⟨#[]⟩):=ah f.out 2;have d3:(df c b 0 (ab 0) (ab 0) (af ⟨#[]⟩) (ae none 0 0)).cell? ⟨b,3,none⟩=some (ae none 0 0):=ah f.out 3;simp only[df,cT]at d0 d1 d2 d3;exact ay (v:=.tuple #[af ⟨#[]⟩,.agg #[ab 0,ab 0,af ⟨#[]⟩,ae none 0 0],ae none 0 0,ab 4]) (by simp[results,results15,go_sem,d0,d1,d2,d3]) rfl ⟨rfl,n.out▸k.out⟩
theorem bC.procN{p:lG}{s:Sy}{d:gE}{w:ag}(c:bC p s d w){a:Int}(g:s.get a=none):ao 15 #[aH p.b,ab a] w λe w'=>e=.returned (.tuple #[af ⟨#[]⟩,.agg #[ab 0,ab 0,af ⟨#[]⟩,ae none 0 0],ae none 0 0,ab 4])/\am w w':=by
 refine CZ p.b d.po a w c.lo.2 c.cells.2.2.2 λi f=>?_;have h:dl d.l a=none:=by
  have:=c.alive a;rw[g]at this;simpa using this
 have:=(c.later f).look a true;rw[if_pos rfl,h]at this;exact this
end Go.Proofs.YtmmahddlcldmiaaGreat
