/- What is proved here: plain facts and contracts that the claimed theorem stands on. No condition but those that each names. -/
import Derived.Test.YtckamaoibonjcaaGreatG39
namespace Go.Proofs.YtckamaoibonjcaaGreat
open Go.RowKit
set_option maxRecDepth 100000
set_option maxHeartbeats 4000000
theorem Ba(g:Nat)(j:Option Nat)(a:Int)(w:World)(t:g<w.heap.size)(l:Hid (w.cell? ⟨g,3,none⟩=some (.map j)))(m:Hid (∀W,ag w W->(Instr.lookup 62 (.map j) (.int .i64 a) true).run Tryz.prog W=.ok (.tuple #[.pointer none,.bool false]) W)):ah 7 #[.pointer (some ⟨g,0,none⟩),.int .i64 a] w λe w'=>e=.returned (.tuple #[.string ⟨#[]⟩,.agg #[.int .i64 0,.int .i64 0,.string ⟨#[]⟩,.slice none 0 0],.slice none 0 0,.int .i64 4])/\ag w w':=by
 go_enter Tryz.func7,Tryz.ntmps7;go_upto_region 1 with fail;generalize i:w.alloc _=c;have HB:Hid (ag w c):=by
  rw[<-i];exact(ak _ _).alloc (ai _) _
 have d:c.heap[w.heap.size]?=some (.cells #[.int .i64 0,.int .i64 0,.string ⟨#[]⟩,.slice none 0 0] 30):=by
  rw[<-i];exact ax _ _
 clear i;have B:=m.out _ HB.out;have u:c.cell? ⟨g,3,none⟩=some (.map j):=(HB.out.cell (p:=⟨g,3,none⟩) t).trans l.out;clear m l;have k:Hid (ag w (cE c w.heap.size 0 (.int .i64 0) (.int .i64 0) (.string ⟨#[]⟩) (.slice none 0 0))):=(dm (o:=0) (v0:=.int .i64 0) (v1:=.int .i64 0) (v2:=.string ⟨#[]⟩) (v3:=.slice none 0 0) HB.out (ai _));have f:=aj (rD d (.int .i64 0) (.int .i64 0) (.string ⟨#[]⟩) (.slice none 0 0));obtain⟨b,h⟩:∃b,b=w.heap.size:=⟨_,rfl⟩;rw[<-h]at d f k ⊢;have s:=aj h;clear h HB;have C:c.cell? ⟨b,0,none⟩=some (.int .i64 0):=ab d 0;have D:c.cell? ⟨b,1,none⟩=some (.int .i64 0):=ab d 1;have E:c.cell? ⟨b,2,none⟩=some (.string ⟨#[]⟩):=ab d 2;have F:c.cell? ⟨b,3,none⟩=some (.slice none 0 0):=ab d 3;have x:c.frozen? ⟨b,0,none⟩=false:=by simp[World.frozen?,d]
 have y:c.frozen? ⟨b,1,none⟩=false:=by simp[World.frozen?,d]
 have z:c.frozen? ⟨b,2,none⟩=false:=by simp[World.frozen?,d]
 have A:c.frozen? ⟨b,3,none⟩=false:=by simp[World.frozen?,d]
 clear d;go_wp2_with fail;have n:(cE c b 0 (.int .i64 0) (.int .i64 0) (.string ⟨#[]⟩) (.slice none 0 0)).cell? ⟨b,0,none⟩=some (.int .i64 0):=ab f.out 0;have d1:(cE c b 0 (.int .i64 0) (.int .i64 0) (.string ⟨#[]⟩) (.slice none 0 0)).cell? ⟨b,1,none⟩=some (.int .i64 0):=ab f.out 1;have q:(cE c b 0 (.int .i64 0) (.int .i64 0) (.string ⟨#[]⟩) (.slice none 0 0)).cell? ⟨b,2,none⟩=some (.string ⟨#[]⟩):=ab f.out 2;have r:(cE c b 0 (.int .i64 0) (.int .i64 0) (.string ⟨#[]⟩) (.slice none 0 0)).cell? ⟨b,3,none⟩=some (.slice none 0 0):=ab f.out 3;simp only[cE,cN]at n d1 q r;exact ap (v:=.tuple #[.string ⟨#[]⟩,.agg #[.int .i64 0,.int .i64 0,.string ⟨#[]⟩,.slice none 0 0],.slice none 0 0,.int .i64 4]) (by simp[results,Tryz.results7,go_sem,n,d1,q,r]) rfl ⟨rfl,s.out▸k.out⟩
theorem aX.procN{p:lh}{s:Sy}{d:gf}{w:World}(c:aX p s d w){a:Int}(g:s.get a=none):ah 7 #[.pointer (some ⟨p.b,0,none⟩),.int .i64 a] w λe w'=>e=.returned (.tuple #[.string ⟨#[]⟩,.agg #[.int .i64 0,.int .i64 0,.string ⟨#[]⟩,.slice none 0 0],.slice none 0 0,.int .i64 4])/\ag w w':=by
 refine Ba p.b d.po a w c.lo.2 c.cells.2.2.2 λi f=>?_;have h:cJ d.l a=none:=by
  have:=c.alive a;rw[g]at this;simpa using this
 have:=(c.later f).look a true;rw[if_pos rfl,h]at this;exact this
theorem BP(G:Option Addr)(I H:Nat)(room:Int)(sa:Option Addr)(sl sc:Nat)(nm t:Nat->ByteArray)(r s:Nat->Int)(xa:Nat->Option Addr)(u xc:Nat->Nat)(w:World)(x:Value->Int->World->Prop)(m:Nat->Nat->World->Prop)(R:Value->World->Prop)(Z:sl<=9223372036854775807)(E:Hid (ah 17 #[.slice G I H,.int .i64 room] w λe w'=>∃v b,e=.returned (.tuple #[v,.int .i64 b])/\Hid (x v b w')))(i:Hid (∀v b W,x v b W->(b≠0\/4<sl)->R (.pointer none) W))(p:Hid (∀v W,x v 0 W->sl<=4->∃a,v=.pointer (some ⟨a,0,none⟩)/\m a 0 W))(l:Hid (∀a j W,j<sl->m a j W->∃g o,(sa=some ⟨g,o,none⟩/\W.cell? ⟨g,o+j*5,none⟩=some (.string (nm j))/\W.cell? ⟨g,o+j*5+1,none⟩=some (.int .i64 (r j))/\W.cell? ⟨g,o+j*5+2,none⟩=some (.int .i64 (s j))/\W.cell? ⟨g,o+j*5+3,none⟩=some (.string (t j))/\W.cell? ⟨g,o+j*5+4,none⟩=some (.slice (xa j) (u j) (xc j)))/\Hid (∀F,ag W F->ah 19 #[.pointer (some ⟨a,0,none⟩),.string (nm j),.agg #[.int .i64 (r j),.int .i64 (s j),.string (t j),.slice (xa j) (u j) (xc j)]] F λe w'=>∃v b,e=.returned (.tuple #[.int .i64 v,.int .i64 b])/\Hid (m a (j+1) w'))))(h:Hid (∀a W,m a sl W->R (.pointer (some ⟨a,0,none⟩)) W)):ah 6 #[.slice G I H,.int .i64 room,.slice sa sl sc] w λe w'=>∃v,e=.returned v/\Hid (R v w'):=by
 go_enter Tryz.func6,Tryz.ntmps6;go_wp2_with fail;refine E.out.mono ?_;rintro e am ⟨v,b,rfl,d⟩;clear E;by_cases z:b=0;rotate_left
 ·have k:=aj (i.out _ _ _ d.out (ae z));have aa:(b==0)=false:=by simpa using z
  clear i p l h d;go_wp2_with fail
  go_ret
  exact⟨_,rfl,k.out⟩
 subst z;by_cases Q:sl<=4;rotate_left
 ·have k:=aj (i.out _ _ _ d.out (af (by omega)));have S:(4:Int)<(sl:Int):=by omega
  clear i p l h d;go_wp2_with fail
  go_ret
  exact⟨_,rfl,k.out⟩
 obtain⟨a,rfl,y⟩:=p.out _ _ d.out Q;have C:=aj y;have S:¬(4:Int)<(sl:Int):=by omega
 clear i p d y;go_wp2_with fail;go_loopw [10,26] (λ_ B wr=>∃(j:Nat),j<=sl/\B=.int .i64 j/\Hid (m a j wr)) (λ_ B _=>sl-(intOf B).toNat)
 case atStart=>exact⟨0,aB _,rfl,C.out⟩
 case round=>
 clear C;obtain⟨j,y,rfl,q⟩:=hrel;by_cases T:j<sl
 ·obtain⟨g,o,⟨rfl,L,M,N,O,P⟩,D⟩:=l.out a j _ T q.out;have ad:(0:Int)<=(j:Int):=by omega
  have al:(j:Int)<(sl:Int):=by omega
  clear l h q;go_upto_region 7 with fail;generalize A:World.alloc _ _=c;have f:c.heap[wr.heap.size]?=some (.cells #[.string (nm j),.int .i64 (r j),.int .i64 (s j),.string (t j),.slice (xa j) (u j) (xc j)] 59):=by
   rw[<-A];exact ax _ _
  have K:=aj (D.out c (by rw[<-A];exact(ak _ _).alloc (ai _) _));generalize wr.heap.size=n at*;have U:c.cell? ⟨n,0,none⟩=some (.string (nm j)):=ab f 0;have d1:c.cell? ⟨n,1,none⟩=some (.int .i64 (r j)):=ab f 1;have V:c.cell? ⟨n,2,none⟩=some (.int .i64 (s j)):=ab f 2;have X:c.cell? ⟨n,3,none⟩=some (.string (t j)):=ab f 3;have Y:c.cell? ⟨n,4,none⟩=some (.slice (xa j) (u j) (xc j)):=ab f 4;clear A f D L M N O P;go_wp2_with fail;refine K.out.mono ?_;rintro e an ⟨v,b,rfl,J⟩;go_wp2_with fail;go_roundw
  case rel=>exact⟨j+1,by omega,by go_num,J.out⟩
  case measure=>simp[intOf];omega
 ·obtain rfl:j=sl:=by omega
  have k:=aj (h.out _ _ q.out);clear l h q;go_wp2_with fail
  go_ret
  exact⟨_,rfl,k.out⟩
def Oc(a:Option Addr)(L:Nat)(b:Nat->Bool)(i:Value->World->Bool->Prop)(w:World):Prop:=∀j,j<L->∃g o nm c v d e f xa h xc,(a=some ⟨g,o,none⟩/\g<w.heap.size/\w.cell? ⟨g,o+j*7,none⟩=some (.string nm)/\w.cell? ⟨g,o+j*7+1,none⟩=some (.int .i64 c)/\w.cell? ⟨g,o+j*7+2,none⟩=some (.int .i64 v)/\w.cell? ⟨g,o+j*7+3,none⟩=some (.int .i64 d)/\w.cell? ⟨g,o+j*7+4,none⟩=some (.int .i64 e)/\w.cell? ⟨g,o+j*7+5,none⟩=some (.string f)/\w.cell? ⟨g,o+j*7+6,none⟩=some (.slice xa h xc))/\Hid (∀W,ag w W->i (.agg #[.string nm,.int .i64 c,.int .i64 v,.int .i64 d,.int .i64 e,.string f,.slice xa h xc]) W (b j))
theorem Ae(a:Option Addr)(L c:Nat)(b:Nat->Bool)(w:World)(H:L<=1000000)(A:Hid (Oc a L b (λv W t=>ah 11 #[v] W λe w'=>e=.returned (.bool t)/\ag W w') w)):ah 29 #[.slice a L c,.func (Fn.func 11) #[] #[]] w λe w'=>∃r:Int,e=.returned (.int .i64 r)/\(0<=r ↔∃j,j<L/\b j=true)/\ag w w':=by
 go_enter Tryz.func29,Tryz.ntmps29;go_wp2_with fail;go_loopw [5,8] (λ_ i wr=>∃j:Nat,j<=L/\i=.int .i64 j/\Hid (ag w wr/\∀k,k<j->b k=false)) (λ_ i _=>L-(intOf i).toNat)
 case atStart=>exact⟨0,aB _,rfl,ak _ _,λk g=>absurd g (Nat.not_lt_zero k)⟩
 case round=>
  obtain⟨j,I,rfl,HB⟩:=hrel;by_cases z:j<L
  ·obtain⟨G,o,K,M,v,O,P,Q,R,T,S,⟨rfl,f,m,n,p,q,s,u,x⟩,B⟩:=A.out j z;have d:=am HB.out.1;replace m:=(d _ _ f).trans m;replace n:=(d _ _ f).trans n;replace p:=(d _ _ f).trans p;replace q:=(d _ _ f).trans q;replace s:=(d _ _ f).trans s;replace u:=(d _ _ f).trans u;replace x:=(d _ _ f).trans x;clear d;have F:(0:Int)<=(j:Int):=by omega
   have J:(j:Int)<(L:Int):=by omega
   have D:=B.out _ HB.out.1;go_wp2_with fail;refine D.mono ?_;rintro e N ⟨rfl,C⟩;have l:=aj (HB.out.1.trans (C.mono HB.out.1.size));cases hbj:b j with
   | true=>
    go_wp2_with fail
    go_ret
    exact⟨_,rfl,⟨λ_=>⟨j,z,hbj⟩,λ_=>F⟩,l.out⟩
   | false=>
    go_wp2_with fail;go_roundw
    case rel=>exact⟨j+1,by omega,by go_num,l.out,λk g=>by rcases Nat.lt_succ_iff_lt_or_eq.1 g with h|h;exact HB.out.2 k h;exact h▸hbj⟩
    case measure=>simp[intOf];omega
  ·have E:j=L:=by omega
   subst E;go_wp2_with fail
   go_ret
   refine⟨_,rfl,⟨λh=>absurd h (by decide),λ⟨k,g,y⟩=>?_⟩,HB.out.1⟩;rw[HB.out.2 k g]at y;cases y
theorem vg(a:Option Addr)(L c:Nat)(b:Nat->Bool)(w:World)(h:L<=1000000)(f:Hid (Oc a L b (λv W t=>ah 11 #[v] W λe w'=>e=.returned (.bool t)/\ag W w') w)):ah 9 #[.slice a L c,.func (Fn.func 11) #[] #[]] w λe w'=>∃t:Bool,e=.returned (.bool t)/\(t=true ↔∃j,j<L/\b j=true)/\ag w w':=by
 go_enter Tryz.func9,Tryz.ntmps9;go_wp2_with fail;refine(Ae a L c b w h f).mono ?_;rintro e l ⟨k,rfl,d,i⟩;have g:=aj d;clear d;go_wp2_with fail
 go_ret
 refine⟨decide (0<=k),?_,by rw[decide_eq_true_iff];exact g.out,i⟩;simp
theorem room_ne(a:Nat)(W:World):(binOp .eql 26 (.pointer (some ⟨a,0,none⟩)) (.pointer none)).run Tryz.prog W=.ok (.bool false) W:=by kernel_rfl
theorem room_none(W:World):(binOp .eql 26 (.pointer none) (.pointer none)).run Tryz.prog W=.ok (.bool true) W:=by kernel_rfl
def NZ(c:Nat)(kd a b d f:Int)(g:ByteArray)(xa:Option Addr)(h xc:Nat)(P:World->Prop)(W:World):Prop:=ah 8 #[.pointer (some ⟨c,0,none⟩),.agg #[.int .i64 kd,.int .i64 a,.int .i64 b,.int .i64 d,.int .i64 f,.string g,.slice xa h xc]] W λe w'=>∃v,e=.returned (.int .i64 v)/\Hid (P w')
def Oj(g:Nat)(i kd a b j k:Int)(l:ByteArray)(xa:Option Addr)(m xc:Nat)(P:World->Prop)(W:World):Prop:=ah 7 #[.pointer (some ⟨g,0,none⟩),.int .i64 i] W λe w'=>∃nm y0 y1 y2 ya yl yc ma d h f,e=.returned (.tuple #[.string nm,.agg #[.int .i64 y0,.int .i64 y1,.string y2,.slice ya yl yc],.slice ma d h,.int .i64 f])/\Hid (ag W w'/\∀c,ag w' c->(f=0->3<=d->P c)/\(¬(f=0/\3<=d)->NZ g kd a b j k l xa m xc P c))
theorem FZ(aE:Option Addr)(aG aF:Nat)(sa:Option Addr)(sl sc:Nat)(aJ:Option Addr)(h aX:Nat)(b n p y z:Nat->Int)(A:Nat->ByteArray)(B:Nat->Option Addr)(D C:Nat->Nat)(w:World)(u:Nat->Nat->World->Prop)(a1:h<=1048576)(s:Hid (ah 5 #[] w λe w'=>e=.returned (.bool true)/\ag w w'))(HB:Hid (∀W,ag w W->ah 6 #[.slice aE aG aF,.int .i64 1000,.slice sa sl sc] W λe w'=>(e=.returned (.pointer none)/\Hid (ag w w'))\/∃d,e=.returned (.pointer (some ⟨d,0,none⟩))/\Hid (u d 0 w')))(K:Hid (∀d j W,u d j W->ag w W))(F:Hid (∀d j W,j<h->h<=60->u d j W->∃g o,(aJ=some ⟨g,o,none⟩/\W.cell? ⟨g,o+j*7,none⟩=some (.int .i64 (b j))/\W.cell? ⟨g,o+j*7+1,none⟩=some (.int .i64 (n j))/\W.cell? ⟨g,o+j*7+2,none⟩=some (.int .i64 (p j))/\W.cell? ⟨g,o+j*7+3,none⟩=some (.int .i64 (y j))/\W.cell? ⟨g,o+j*7+4,none⟩=some (.int .i64 (z j))/\W.cell? ⟨g,o+j*7+5,none⟩=some (.string (A j))/\W.cell? ⟨g,o+j*7+6,none⟩=some (.slice (B j) (D j) (C j)))/\ Hid (∀O,ag W O->(b j≠2->b j≠3->NZ d (b j) (n j) (p j) (y j) (z j) (A j) (B j) (D j) (C j) (u d (j+1)) O)/\∀r,(b j=2/\r=p j)\/(b j=3/\r=n j)->Oj d r (b j) (n j) (p j) (y j) (z j) (A j) (B j) (D j) (C j) (u d (j+1)) O)))(G:Hid (∀d W,h<=60->u d h W->ah 10 #[.pointer (some ⟨d,0,none⟩)] W λe w'=>∃a L c,e=.returned (.slice a L c)/\Hid (ah 9 #[.slice a L c,.func (Fn.func 11) #[] #[]] w' λe w2=>e=.returned (.bool false)/\ag w w2))):ah 3 #[.slice aE aG aF,.slice sa sl sc,.slice aJ h aX] w λe w'=>e=.returned (.bool true)/\ag w w':=by
 go_enter Tryz.func3,Tryz.ntmps3;go_wp2_with fail;refine s.out.mono ?_;rintro e a7 ⟨rfl,Y⟩;have ad:=aj Y;clear s Y;go_wp2_with fail;refine(HB.out _ ad.out).mono ?_;clear HB ad;rintro e w2 (⟨rfl,N⟩|⟨d,rfl,I⟩)
 ·have aV:=room_none;clear F G K;go_wp2_with fail
  go_ret
  exact⟨rfl,N.out⟩
 have aV:=room_ne d;by_cases aD:h<=60;rotate_left
 ·have aT:(60:Int)<(h:Int):=by omega
  have N:=aj (K.out _ _ _ I.out);clear F G I K;go_wp2_with fail
  go_ret
  exact⟨rfl,N.out⟩
 have aT:¬(60:Int)<(h:Int):=by omega
 clear K;go_wp2_with fail;go_loopw [9,10,11,12,13,14,29] (λ_ _ _ _ _ _ V wr=>∃(j:Nat),j<=h/\V=.int .i64 j/\Hid (u d j wr)) (λ_ _ _ _ _ _ V _=>h-(intOf V).toNat)
 case atStart=>exact⟨0,aB _,rfl,I.out⟩
 case round=>
 clear I;obtain⟨j,aU,rfl,s⟩:=hrel;by_cases az:j<h;rotate_left
 ·obtain rfl:j=h:=by omega
  have am:=aj (G.out _ _ aD s.out);clear F G s aU az;go_wp2_with fail;refine am.out.mono ?_;rintro e a8 ⟨a,L,c,rfl,aa⟩;clear am;go_wp2_with fail;refine aa.out.mono ?_;rintro e a9 ⟨rfl,au⟩;have aK:=aj au;clear aa au;go_wp2_with fail
  go_ret
  exact⟨rfl,aK.out⟩
 obtain⟨g,o,⟨rfl,aL,aM,aN,aO,aP,aQ,aR⟩,al⟩:=F.out d j _ az aD s.out;have a2:(0:Int)<=(j:Int):=by omega
 have a3:(j:Int)<(h:Int):=by omega
 clear F s G;go_upto_region 9 with fail;generalize U:World.alloc _ _=m;have H:m.heap[wr.heap.size]?=some (.cells #[.int .i64 (b j),.int .i64 (n j),.int .i64 (p j),.int .i64 (y j),.int .i64 (z j),.string (A j),.slice (B j) (D j) (C j)] 32):=by
  rw[<-U];exact ax _ _
 have J:=aj (al.out m (by rw[<-U];exact(ak _ _).alloc (ai _) _));generalize wr.heap.size=f at*;have M:m.cell? ⟨f,0,none⟩=some (.int .i64 (b j)):=ab H 0;have d1:m.cell? ⟨f,1,none⟩=some (.int .i64 (n j)):=ab H 1;have P:m.cell? ⟨f,2,none⟩=some (.int .i64 (p j)):=ab H 2;have t:=aj H;clear U H al aL aM aN aO aP aQ aR
 -- what is left of a round behind Proc
 by_cases l:b j=2\/b j=3
 ·obtain⟨r,aA⟩:∃r,(b j=2/\r=p j)\/(b j=3/\r=n j):=by
    rcases l with Q|Q
    ·exact⟨_,ae ⟨Q,rfl⟩⟩
    ·exact⟨_,af ⟨Q,rfl⟩⟩
  have k:=aj (J.out.2 r aA);clear J l;rcases aA with⟨l,rfl⟩|⟨l,rfl⟩
  all_goals
   rw[l]at M;go_wp2_with fail;refine k.out.mono ?_;rintro e aW ⟨a6,y0,y1,y2,ya,yl,yc,a4,X,a5,aH,rfl,Z⟩;clear k M d1 P;go_upto_region 14 with fail;generalize aC:World.alloc _ _=i;have R:ag aW i:=by rw[<-aC];exact(ak _ _).alloc (ai _) _
   obtain⟨S,av⟩:=Z.out;have x:=aj (av i R);have q:=fj (S.trans (R.mono S.size)) t.out;have M:i.cell? ⟨f,0,none⟩=some (.int .i64 (b j)):=ab q 0;have d1:i.cell? ⟨f,1,none⟩=some (.int .i64 (n j)):=ab q 1;have P:i.cell? ⟨f,2,none⟩=some (.int .i64 (p j)):=ab q 2;have an:i.cell? ⟨f,3,none⟩=some (.int .i64 (y j)):=ab q 3;have ao:i.cell? ⟨f,4,none⟩=some (.int .i64 (z j)):=ab q 4;have ap:i.cell? ⟨f,5,none⟩=some (.string (A j)):=ab q 5;have aq:i.cell? ⟨f,6,none⟩=some (.slice (B j) (D j) (C j)):=ab q 6;clear aC R Z S av q t l;by_cases T:aH=0
   ·subst T;by_cases ar:3<=X
    ·have aS:(3:Int)<=(X:Int):=by omega
     have k:=aj (x.out.1 rfl ar);clear x M d1 P an ao ap aq;go_wp2_with fail;go_roundw
     case rel=>exact⟨j+1,by omega,by go_num,k.out⟩
     case measure=>simp[intOf];omega
    ·have aS:¬(3:Int)<=(X:Int):=by omega
     have k:=aj (x.out.2 λv=>ar v.2);clear x;go_wp2_with fail;refine k.out.mono ?_;rintro e i ⟨aI,rfl,E⟩;go_wp2_with fail;go_roundw
     case rel=>exact⟨j+1,by omega,by go_num,E.out⟩
     case measure=>simp[intOf];omega
   ·have a0:(aH==0)=false:=by simpa using T
    have k:=aj (x.out.2 λv=>T v.1);clear x;go_wp2_with fail;refine k.out.mono ?_;rintro e i ⟨aI,rfl,E⟩;go_wp2_with fail;go_roundw
    case rel=>exact⟨j+1,by omega,by go_num,E.out⟩
    case measure=>simp[intOf];omega
 ·have aw:¬b j=2:=λv=>l (ae v);have ay:¬b j=3:=λv=>l (af v);have aY:(b j==2)=false:=by simpa using aw
  have aZ:(b j==3)=false:=by simpa using ay
  have k:=aj (J.out.1 aw ay);have an:m.cell? ⟨f,3,none⟩=some (.int .i64 (y j)):=ab t.out 3;have ao:m.cell? ⟨f,4,none⟩=some (.int .i64 (z j)):=ab t.out 4;have ap:m.cell? ⟨f,5,none⟩=some (.string (A j)):=ab t.out 5;have aq:m.cell? ⟨f,6,none⟩=some (.slice (B j) (D j) (C j)):=ab t.out 6;clear J l t;go_wp2_with fail;refine k.out.mono ?_;rintro e i ⟨aI,rfl,E⟩;go_wp2_with fail;go_roundw
  case rel=>exact⟨j+1,by omega,by go_num,E.out⟩
  case measure=>simp[intOf];omega
theorem rv{n d:Nat}{p:List (Tm n)}{q:List (Tm d)}(c:az (λa b=>au n a d b) p q=true)(s:ByteArray)(k:Nat):sY n p s k=sY d q s k:=by
 unfold sY;rw[cu _ _ _ c];cases p with
 | nil=>
  cases q with
  | nil=>rfl
  | cons b q=>simp[az]at c
 | cons a p=>
  cases q with
  | nil=>simp[az]at c
  | cons b q=>
   simp only[az,ay]at c;have e:(fQ n a).1=(fQ d b).1:=by
    cases n with
    | zero=>exact absurd c.1 (by simp[au])
    | succ n=>
     cases d with
     | zero=>exact absurd c.1 (by simp[au])
     | succ d=>exact(bz c.1).1
   simp only[cG,(kt _ _ _ _ c.1).1,e]
theorem qd{n e:Nat}{p:List (Tm n)}{q:List (Tm e)}(f:az (λa b=>au n a e b) p q=true)(i:Nat):(p[i]?=none/\q[i]?=none)\/∃a b,p[i]?=some a/\q[i]?=some b/\au n a e b=true/\a∈p/\b∈q:=by
 have h:=cu _ _ _ f;by_cases g:i<p.length
 ·have c:=aD g;have d:=aD (show i<q.length by omega);exact af ⟨_,_,c,d,iV _ _ _ f _ _ _ c d,aC c,aC d⟩
 ·exact ae ⟨ed (by omega),ed (by omega)⟩
theorem yZ{n i N M:Nat}(f:Tm n->Option (Tm N))(g:Tm i->Option (Tm M)):(p:List (Tm n))->(q:List (Tm i))->az (λa b=>au n a i b) p q=true->(∀a∈p,∀b∈q,au n a i b=true->eZ N M (f a) (g b))->eZ (N+1) (M+1) ((cw f p).map (cR N)) ((cw g q).map (cR M))/\((cw f p=none/\cw g q=none)\/∃l r,cw f p=some l/\cw g q=some r/\az (λa b=>au N a M b) l r=true)
 | [],[],_,_=>⟨by simp[cw,eZ,au,cR,az],af ⟨[],[],rfl,rfl,rfl⟩⟩
 | [],_::_,h,_=>by simp[az]at h
 | _::_,[],h,_=>by simp[az]at h
 | a::p,b::q,d,h=>by
  simp only[az,ay]at d;have c:=h a (by simp) b (by simp) d.1;have s:=(yZ f g p q d.2 λx t y u=>h x (by simp[t]) y (by simp[u])).2;simp only[cw];cases e1:f a with
  | none=>
   rw[e1]at c;cases e:g b with
   | none=>simp[eZ]
   | some _=>rw[e]at c;exact c.elim
  | some o=>
   rw[e1]at c;cases e:g b with
   | none=>rw[e]at c;exact c.elim
   | some v=>
    rw[e]at c;have d:au N o M v=true:=c;rcases s with⟨j,k⟩|⟨l,r,j,k,m⟩
    ·rw[j,k];simp[eZ]
    ·rw[j,k];exact⟨by simp[eZ,au,cR,az,d,m],af ⟨o::l,v::r,rfl,rfl,by simp[az,d,m]⟩⟩
theorem yK(m:Nat)(b:List (Tm m))(i:Nat)(k:List (Tm i))(self:Int)(u:az (λx y=>au m x i y) b k=true)(z:∀y∈b,av ⟨m,y⟩)(A:∀y∈k,av ⟨i,y⟩):(n:Nat)->(x:Tm n)->(d:Nat)->(x':Tm d)->av ⟨n,x⟩->av ⟨d,x'⟩->au n x d x'=true->eZ (m+n) (i+d) (vl m b self n x) (vl i k self d x')
 | 0,_,_,_,_,_,h=>by simp[au]at h
 | _+1,_,0,_,_,_,h=>by simp[au]at h
 | n+1,x,d+1,x',hx,hx',h=>by
  obtain⟨H,j⟩:=bz h;unfold vl;rw[<-H];by_cases s:x.1.1=5
  ·rw[if_pos s,if_pos s];rcases qd u x.1.2.1.toNat with⟨e,f⟩|⟨y,F,e,f,C,p,q⟩
   ·rw[e,f];trivial
   ·rw[e,f];simp only[dl];rw[<-(kt _ _ _ _ C).1];by_cases g:bK ⟨m,y⟩=6
    ·rw[if_pos g,if_pos g];trivial
    ·rw[if_neg g,if_neg g];exact il (by omega) (by omega) (z y p) (A _ q) C
  ·rw[if_neg s,if_neg s];by_cases g:x.1.1=6
   ·rw[if_pos g,if_pos g];trivial
   ·rw[if_neg g,if_neg g];by_cases r:x.1.1=4
    ·rw[if_pos r,if_pos r,<-rv j,<-rv j,<-rv j];by_cases B:sY n x.2.2 oZ 0=true
     ·rw[if_pos B,if_pos B];simp[eZ,au,bF,az]
     ·rw[if_neg B,if_neg B];by_cases t:sY n x.2.2 uW 2=true
      ·rw[if_pos t,if_pos t];rcases qd j 1 with⟨e,f⟩|⟨a,o,e,f,l,p,q⟩
       ·rw[e,f];trivial
       ·rcases qd j 2 with⟨D,E⟩|⟨c,G,D,E,K,M,N⟩
        ·rw[e,f,D,E];trivial
        ·rw[e,f,D,E];simp only[dl];exact mI (yK m b i k self u z A n a d o (aN n x a hx p) (aN d x' o hx' q) l) λO v I=>mI (yK m b i k self u z A n c d G (aN n x c hx M) (aN d x' G hx' N) K) λP Q J=>wN I J
      ·rw[if_neg t,if_neg t];by_cases w:sY n x.2.2 Bt 1=true
       ·rw[if_pos w,if_pos w];rcases qd j 1 with⟨e,f⟩|⟨a,o,e,f,l,p,q⟩
        ·rw[e,f];trivial
        ·rw[e,f];simp only[dl,co _ _ _ _ l];cases aF d o
         ·simp[eZ]
         ·exact il (by omega) (by omega) (aN n x a hx p) (aN d x' o hx' q) l
       ·rw[if_neg w,if_neg w];exact(yZ _ _ x.2.2 x'.2.2 j λy C F L l=>yK m b i k self u z A n y d F (aN n x y hx C) (aN d x' F hx' L) l).1
    ·rw[if_neg r,if_neg r];exact il (by omega) (by omega) hx hx' h
theorem Er{B:List Tc}(c:∀y∈B,av ⟨13,y⟩)(self:Int){n a:Nat}{x:Tm n}{x':Tm a}(g:av ⟨n,x⟩)(h:av ⟨a,x'⟩)(e:au n x a x'=true):qV B self n x=qV B self a x':=by
 have f:az (λx y=>au 13 x 13 y) B B=true:=ir _ _ λy i=>eV 13 y (c y i);have k:=yK 13 B 13 B self f c c n x a x' g h e;unfold qV;cases e1:vl 13 B self n x with
 | none=>
  rw[e1]at k;cases b:vl 13 B self a x' with
  | none=>rfl
  | some _=>rw[b]at k;exact k.elim
 | some j=>
  rw[e1]at k;cases b:vl 13 B self a x' with
  | none=>rw[b]at k;exact k.elim
  | some l=>
   rw[b]at k;have d:au (13+n) j (13+a) l=true:=k;simp only[dl];rw[bH d,gL d]
def NN(k:Nat)(d:Dg):Prop:=(∀y∈d.b,av ⟨13,y⟩)/\1<=d.next/\d.next+k<=100
theorem sq{n:Nat}(a:Ac (n+1)):(a.1=1/\(bU n a).2.2=[aU lT n,a.2.1.1,a.2.1.2])\/(a.1=2/\(bU n a).2.2=[aU iz n,aU a.2.2.1 n,a.2.1.2,bF 5 a.2.2.2 n])\/(a.1=3/\(bU n a).2.2=[aU lS n,a.2.1.1])\/((a.1≠1/\a.1≠2/\a.1≠3)/\(bU n a).2.2=[aU kU n]):=by
 unfold bU;by_cases b:a.1=1
 ·exact ae ⟨b,by rw[if_pos b];rfl⟩
 ·by_cases c:a.1=2
  ·exact af (ae ⟨c,by rw[if_neg b,if_pos c];rfl⟩)
  ·by_cases d:a.1=3
   ·exact af (af (ae ⟨d,by rw[if_neg b,if_neg c,if_pos d];rfl⟩))
   ·exact af (af (af ⟨⟨b,c,d⟩,by rw[if_neg b,if_neg c,if_neg d];rfl⟩))
theorem FR{a:Int}(d:1<=a/\a<=99):av ⟨13,CO a⟩:=by
 intro c b;have b:c∈[(((3,a,.empty),(none,0,0)):Nd)]:=b;obtain rfl:=dA.1 b;simp[cm,pT,d]
theorem Hp{n m:Nat}{a:Ac (n+1)}{b:Ac (m+1)}(c:au (n+2) (bU n a) (m+2) (bU m b)=true)(w:av ⟨n+2,bU n a⟩)(y:av ⟨m+2,bU m b⟩)(self:Int){k:Nat}{d:Dg}(z:NN (k+1) d):qp self a d=qp self b d/\∀h,qp self a d=some h->NN k h:=by
 obtain⟨_,e⟩:=bz c;have F:=λl j=>aN (n+1) (bU n a) l w j;have G:=λl j=>aN (m+1) (bU m b) l y j;have v:=cu _ _ _ e;obtain⟨d1,q,I⟩:=z;have i:∀{x:Tm (n+1)}{x':Tm (m+1)},x∈(bU n a).2.2->x'∈(bU m b).2.2->au (n+1) x (m+1) x'=true->qV d.b self (n+1) x=qV d.b self (m+1) x':=λA B C=>Er d1 self (F _ A) (G _ B) C;rcases sq a with⟨f,o⟩|⟨f,o⟩|⟨f,o⟩|⟨f,o⟩<;>rcases sq b with⟨g,p⟩|⟨g,p⟩|⟨g,p⟩|⟨g,p⟩<;>rw[o,p]at v e i
 case inl.inl=>
  simp only[az,ay,and_true]at e;have r:=i (x:=a.2.1.1) (x':=b.2.1.1) (by simp) (by simp) e.2.1;have s:=i (x:=a.2.1.2) (x':=b.2.1.2) (by simp) (by simp) e.2.2;unfold qp;rw[if_pos f,if_pos g,s];unfold mF;rw[r];refine⟨rfl,λh c=>?_⟩;obtain⟨H,_,c⟩:=bj.1 c;obtain⟨t,_,rfl⟩:=b8.1 c;exact⟨d1,q,by simp only;omega⟩
 case inr.inl.inr.inl=>
  simp only[az,ay,and_true]at e;have s:=i (x:=a.2.1.2) (x':=b.2.1.2) (by simp) (by simp) e.2.2.1;have D:a.2.2.1=b.2.2.1:=by
   have:=(bz e.2.1).1;simpa [aU]using this
  have E:a.2.2.2=b.2.2.2:=by
   have:=(bz e.2.2.2).1;simpa [bF]using this
  unfold qp;rw[if_neg (show¬a.1=1 by omega),if_neg (show¬b.1=1 by omega),if_pos f,if_pos g,s,D,E];refine⟨rfl,λh c=>?_⟩;obtain⟨t,_,c⟩:=bj.1 c;split at c
  ·obtain rfl:=aq c;refine⟨λl j=>?_,by simp only;omega,by simp only;omega⟩;rcases rR j with u|u
   ·exact d1 l u
   ·rw[u];exact FR (by omega)
  ·cases c
 case inr.inr.inl.inr.inr.inl=>
  simp only[az,ay,and_true]at e;have r:=i (x:=a.2.1.1) (x':=b.2.1.1) (by simp) (by simp) e.2;unfold qp;rw[if_neg (show¬a.1=1 by omega),if_neg (show¬b.1=1 by omega),if_neg (show¬a.1=2 by omega),if_neg (show¬b.1=2 by omega),if_pos f,if_pos g];unfold mF;rw[r];refine⟨rfl,λh c=>?_⟩;obtain⟨H,_,rfl⟩:=b8.1 c;exact⟨d1,q,by simp only;omega⟩
 case inr.inr.inr.inr.inr.inr=>
  unfold qp;rw[if_neg f.1,if_neg g.1,if_neg f.2.1,if_neg g.2.1,if_neg f.2.2,if_neg g.2.2];refine⟨rfl,λh c=>?_⟩;obtain rfl:=aq c;exact⟨d1,q,by simp only;omega⟩
 all_goals exact absurd v (by simp)
theorem zI{n m:Nat}(self:Int):(l:List (Ac (n+1)))->(r:List (Ac (m+1)))->az (λx y=>au (n+2) x (m+2) y) (l.map (bU n)) (r.map (bU m))=true->(∀a∈l,av ⟨n+2,bU n a⟩)->(∀b∈r,av ⟨m+2,bU m b⟩)->∀{d:Dg},NN l.length d->pq self l d=pq self r d/\∀f,pq self l d=some f->∀y∈f.b,av ⟨13,y⟩
 | [],[],_,_,_,d,hd=>⟨rfl,λf c=>by obtain rfl:=aq c;exact hd.1⟩
 | [],_::_,c,_,_,_,_=>by simp[az]at c
 | _::_,[],c,_,_,_,_=>by simp[az]at c
 | a::l,b::r,c,ha,hb,d,hd=>by
  simp only[aH,az,ay]at c;obtain⟨h,i⟩:=Hp c.1 (ha a (by simp)) (hb b (by simp)) self hd;unfold pq;rw[<-h];cases e:qp self a d with
  | none=>exact⟨rfl,λ_ c=>by cases c⟩
  | some f=>exact zI self l r c.2 (λx g=>ha x (by simp[g])) (λx g=>hb x (by simp[g])) (i f e)
def MZ{n m:Nat}(c:Cl (n+1))(a:Cl (m+1)):Prop:=(au (n+1) c.1.1 (m+1) a.1.1=true/\au (n+1) c.1.2.1 (m+1) a.1.2.1=true/\au (n+1) c.1.2.2 (m+1) a.1.2.2=true)/\az (λx y=>au (n+2) x (m+2) y) (c.2.2.map (bU n)) (a.2.2.map (bU m))=true
theorem nH{n m:Nat}{x:Tm (n+1)}{y:Tm (m+1)}(b:bm (n+1) x=0)(c:bm (m+1) y=0)(a:au (n+3) (aK (n+3) (n+1) x) (m+3) (aK (m+3) (m+1) y)=true):au (n+1) x (m+1) y=true:=
 bM _ _ _ _ _ _ (dF _ _ _ _ (eU (n+3) (n+1) (by omega) x (aG.2 (br.1 b).1))) (bM _ _ _ _ _ _ a (eU (m+3) (m+1) (by omega) y (aG.2 (br.1 c).1)))
theorem Kj{n m:Nat}{c:Cl (n+1)}{a:Cl (m+1)}(f:au (n+4) (dp n c) (m+4) (dp m a)=true)(b:o9 c)(d:o9 a):MZ c a:=by
 obtain⟨_,e⟩:=bz f;simp only[dp,cR,az,ay,and_true]at e;obtain⟨_,g,h,i,j⟩:=e;exact⟨⟨nH b.1 d.1 g,nH b.2.1 d.2.1 h,nH b.2.2.1 d.2.2.1 j⟩,(bz i).2⟩
theorem J9:mu.length=4/\∀y∈mu,BJ y:=by
 refine⟨rfl,λy a=>?_⟩;simp only[mu,mX,bZ]at a;obtain⟨c,b,rfl⟩:=a;rw[List.eq_of_mem_replicate b];exact⟨by kernel_rfl,ae rfl⟩
theorem EY{n m:Nat}{c:Cl (n+1)}{e:Cl (m+1)}(f:MZ c e){s t:Tc}(j:bm 13 s=0/\aF 13 s=true)(k:bm 13 t=0/\aF 13 t=true):kG c s t=kG e s t/\∀b,kG c s t=some b->∀y∈b,av ⟨13,y⟩:=by
 have r:au 13 s 13 s=true:=eV _ _ (aG.2 (br.1 j.1).1);have u:au 13 t 13 t=true:=eV _ _ (aG.2 (br.1 k.1).1);have a:=lE _ c.1.1 13 s _ e.1.1 13 s mu mu f.1.1 r tx;unfold kG;cases e1:gG (n+1) c.1.1 13 s mu with
 | none=>
  rw[e1]at a;cases g:gG (m+1) e.1.1 13 s mu with
  | none=>exact⟨rfl,λ_ f=>by cases f⟩
  | some _=>rw[g]at a;exact a.elim
 | some b=>
  rw[e1]at a;cases g:gG (m+1) e.1.1 13 s mu with
  | none=>rw[g]at a;exact a.elim
  | some i=>
   rw[g]at a;have q:=ko BJ nA _ c.1.1 13 s ⟨j.1,af j.2⟩ _ _ J9 e1;have d:=lE _ c.1.2.1 13 t _ e.1.2.1 13 t b i f.1.2.1 u a;simp only[dl];cases e3:gG (n+1) c.1.2.1 13 t b with
   | none=>
    rw[e3]at d;cases h:gG (m+1) e.1.2.1 13 t i with
    | none=>exact⟨rfl,λ_ f=>by cases f⟩
    | some _=>rw[h]at d;exact d.elim
   | some x=>
    rw[e3]at d;cases h:gG (m+1) e.1.2.1 13 t i with
    | none=>rw[h]at d;exact d.elim
    | some z=>
     rw[h]at d;refine⟨by simp only[Option.map_some];rw[Hd d],λw l y o=>?_⟩;obtain rfl:=aq l;obtain⟨v,p,rfl⟩:=bZ.1 o;exact aG.2 (br.1 (pj ((ko BJ nA _ c.1.2.1 13 t ⟨k.1,af k.2⟩ _ _ q e3).2 v p).1)).1
theorem re{n m:Nat}(name:ByteArray):(l:List (Bh (n+1)))->(r:List (Bh (m+1)))->az (λx y=>au (n+5) x (m+5) y) (l.map (dz n)) (r.map (dz m))=true->(fN (n+1) name l=none/\fN (m+1) name r=none)\/∃b a,fN (n+1) name l=some b/\fN (m+1) name r=some a/\az (λx y=>au (n+4) x (m+4) y) (b.2.2.map (dp n)) (a.2.2.map (dp m))=true/\b∈l/\a∈r
 | [],[],_=>ae ⟨rfl,rfl⟩
 | [],_::_,h=>by simp[az]at h
 | _::_,[],h=>by simp[az]at h
 | b::l,a::r,h=>by
  simp only[aH,az,ay]at h;obtain⟨_,f⟩:=bz h.1;simp only[dz,cR,az,ay]at f;have e:b.1=a.1:=by
   have:=(bz f.2.1).1;simpa [aU]using this
  unfold fN;rw[e];by_cases d:a.1=name
  ·rw[if_pos d,if_pos d];exact af ⟨b,a,rfl,rfl,f.2.2,by simp,by simp⟩
  ·rw[if_neg d,if_neg d];rcases re name l r h.2 with k|⟨c,g,i,j,o,p,q⟩
   ·exact ae k
   ·exact af ⟨c,g,i,j,o,by simp[p],by simp[q]⟩
theorem vI{n m:Nat}{s t:Tc}(o:bm 13 s=0/\aF 13 s=true)(p:bm 13 t=0/\aF 13 t=true):(l:List (Cl (n+1)))->(r:List (Cl (m+1)))->az (λx y=>au (n+4) x (m+4) y) (l.map (dp n)) (r.map (dp m))=true->(∀c∈l,o9 c)->(∀c∈r,o9 c)->(lA s t l=none/\lA s t r=none)\/∃c a b,lA s t l=some (c,b)/\lA s t r=some (a,b)/\MZ c a/\(c∈l/\a∈r)/\∀y∈b,av ⟨13,y⟩
 | [],[],_,_,_=>ae ⟨rfl,rfl⟩
 | [],_::_,h,_,_=>by simp[az]at h
 | _::_,[],h,_,_=>by simp[az]at h
 | c::l,a::r,h,hl,hr=>by
  simp only[aH,az,ay]at h;have j:=Kj h.1 (hl c (by simp)) (hr a (by simp));obtain⟨g,i⟩:=EY j o p;unfold lA;rw[<-g];cases e:kG c s t with
  | some b=>exact af ⟨c,a,b,rfl,rfl,j,⟨by simp,by simp⟩,i b e⟩
  | none=>
   rcases vI o p l r h.2 (λx f=>hl x (by simp[f])) (λx f=>hr x (by simp[f]))with k|⟨d,u,b,g,i,v,q,w⟩
   ·exact ae k
   ·exact af ⟨d,u,b,g,i,v,⟨by simp[q.1],by simp[q.2]⟩,w⟩
theorem tG{n m:Nat}{s:Tc}(k:bm 13 s=0/\aF 13 s=true){l:List (Cl (n+1))}{r:List (Cl (m+1))}(f:az (λx y=>au (n+4) x (m+4) y) (l.map (dp n)) (r.map (dp m))=true)(g:∀c∈l,o9 c)(h:∀c∈r,o9 c):(ms:List Tc)->(∀t∈ms,bm 13 t=0/\aF 13 t=true)->(i:Nat)->(ri l s ms i=none/\ri r s ms i=none)\/∃j c a b,ri l s ms i=some (j,c,b)/\ri r s ms i=some (j,a,b)/\MZ c a/\(c∈l/\a∈r)/\∀y∈b,av ⟨13,y⟩
 | [],_,_=>ae ⟨rfl,rfl⟩
 | t::ms,ht,i=>by
  unfold ri;rcases vI k (ht t (by simp)) l r f g h with⟨d,e⟩|⟨c,a,b,d,e,p⟩
  ·rw[d,e];exact tG k f g h ms (λx o=>ht x (by simp[o])) (i+1)
  ·rw[d,e];exact af ⟨i,c,a,b,rfl,rfl,p⟩
theorem Ex{n:Nat}{c:Cl (n+1)}(d:bm (n+3) (cR (n+2) (c.2.2.map (bU n)))=0):∀a∈c.2.2,av ⟨n+2,bU n a⟩:=λa b=>aG.2 (br.1 (fk d (by simp only[cR];exact iH b))).1
theorem E8{n m:Nat}{c:Cl (n+1)}{f:Cl (m+1)}(h:MZ c f)(g:o9 c/\∀a∈c.2.2,av ⟨n+2,bU n a⟩)(i:o9 f/\∀a∈f.2.2,av ⟨m+2,bU m a⟩)(room self next:Int)(k:1<=next/\next<=92)(s t:Tc)(ms:List Tc){b:List Tc}(j:∀y∈b,av ⟨13,y⟩):eI room self next s t ms c b=eI room self next s t ms f b:=by
 have p:=g.1.2.2.2.1;obtain⟨l,o⟩:=zI self c.2.2 f.2.2 h.2 g.2 i.2 (d:=⟨b,next,[],[],[],false⟩) ⟨j,k.1,by simp only;omega⟩;unfold eI;rw[<-l];cases e:pq self c.2.2 ⟨b,next,[],[],[],false⟩with
 | none=>rfl
 | some d=>
  have:=Er (o d e) self (aG.2 (br.1 g.1.2.2.1).1) (aG.2 (br.1 i.1.2.2.1).1) h.1.2.2;simp only[this]
theorem wj{n:Nat}{p:List (Bh (n+1))}(d:mZ n p=0):∀b∈p,∀c∈b.2.2,o9 c/\∀a∈c.2.2,av ⟨n+2,bU n a⟩:=λb e c f=>by
 have g:=(fx d).2.1;have h:bm (n+5) (dz n b)=0:=fk g (by simp only[bR,cR];exact bI _ (iH e));have i:bm (n+4) (dp n c)=0:=fk h (by simp only[dz,cR];exact bI _ (bI _ (iH f)));exact⟨((Ef d).2 b e).2 c f,Ex (tE i 3 rfl)⟩
theorem uP{n m:Nat}{P:List (Bh (n+1))}{Q:List (Bh (m+1))}(b:au (n+6) (bR n P) (m+6) (bR m Q)=true):az (λx y=>au (n+5) x (m+5) y) (P.map (dz n)) (Q.map (dz m))=true:=by
 obtain⟨_,a⟩:=bz b;simp only[bR,cR,az,ay]at a;exact a.2
theorem ua{n m:Nat}{P:List (Bh (n+1))}{Q:List (Bh (m+1))}(d:au (n+6) (bR n P) (m+6) (bR m Q)=true)(nm:ByteArray):ky n P nm=ky m Q nm:=by
 unfold ky;rcases re nm P Q (uP d)with⟨a,c⟩|⟨b,e,a,c,_⟩<;>rw[a,c]<;>rfl
theorem Gc{n m:Nat}{P:List (Bh (n+1))}{Q:List (Bh (m+1))}(y:au (n+6) (bR n P) (m+6) (bR m Q)=true)(z:mZ n P=0)(A:mZ m Q=0)(room:Int)(nm:ByteArray)(self next:Int)(B:1<=next/\next<=92){s:Tc}(w:bm 13 s=0/\aF 13 s=true){ms:List Tc}(v:∀t∈ms,bm 13 t=0/\aF 13 t=true):lR room P nm self next s ms=lR room Q nm self next s ms:=by
 have p:=wj z;have q:=wj A;have key:(ri (fP nm P) s ms 0=none/\ri (fP nm Q) s ms 0=none)\/∃f c a b,ri (fP nm P) s ms 0=some (f,c,b)/\ri (fP nm Q) s ms 0=some (f,a,b)/\MZ c a/\((o9 c/\∀i∈c.2.2,av ⟨n+2,bU n i⟩)/\o9 a/\∀i∈a.2.2,av ⟨m+2,bU m i⟩)/\∀H∈b,av ⟨13,H⟩:=by
  unfold fP;rcases re nm P Q (uP y)with⟨d,e⟩|⟨b,u,d,e,o,g,h⟩
  ·rw[d,e];rcases tG w (l:=([]:List (Cl (n+1)))) (r:=([]:List (Cl (m+1)))) rfl (by simp) (by simp) ms v 0 with k|⟨_,_,_,_,_,_,_,k,_⟩
   ·exact ae k
   ·cases k.1
  ·rw[d,e];rcases tG w o (λc j=>(p b g c j).1) (λc j=>(q u h c j).1) ms v 0 with k|⟨f,c,a,G,C,D,E,x,F⟩
   ·exact ae k
   ·exact af ⟨f,c,a,G,C,D,E,⟨p b g c x.1,q u h a x.2⟩,F⟩
 unfold lR;rcases key with⟨d,e⟩|⟨f,c,a,b,d,e,o,g,h⟩
 ·rw[d,e];rfl
 ·rw[d,e];simp only[dl];congr 1;funext t;exact E8 o g.1 g.2 room self next B s t _ h
theorem Kt{n m:Nat}{P:List (Bh (n+1))}{Q:List (Bh (m+1))}(d:au (n+6) (bR n P) (m+6) (bR m Q)=true)(f:mZ n P=0)(g:mZ m Q=0){s:Sy}(q:∀a nm cs c,s.get a=some (nm,cs,c)->(bm 13 cs=0/\aF 13 cs=true)/\∀t∈c,bm 13 t=0/\aF 13 t=true)(v:0<=s.last/\s.last<=90)(room i a b:Int)(k:Nat)(x:Tm k):s.do n P room i a b k x=s.do m Q room i a b k x:=by
 have p:ky n P=ky m Q:=funext λnm=>ua d nm;have r:s.run n P room a=s.run m Q room a:=by
  unfold Sy.run;cases e:s.get a with
  | none=>rfl
  | some u=>
   obtain⟨nm,cs,c⟩:=u;obtain⟨j,l⟩:=q a nm cs c e;have h:=Gc d f g room nm a (s.last+1) ⟨by omega,by omega⟩ j l;have o:qK n room P nm a (s.last+1) cs c=qK m room Q nm a (s.last+1) cs c:=by
    unfold qK;rw[h,f,g]
   simp only[o,h,Sy.made,p];split
   ·cases lR room Q nm a (s.last+1) cs c<;>rfl
   ·rfl
 unfold Sy.do;rw[r]
theorem C9{n m:Nat}{P:List (Bh (n+1))}{Q:List (Bh (m+1))}(a:au (n+6) (bR n P) (m+6) (bR m Q)=true)(s:Sy)(room:Int)(nm:ByteArray)(k:Nat)(x:Tm k):s.start n P room nm k x=s.start m Q room nm k x:=by
 unfold Sy.start;rw[ua a]
theorem Ii{n:Nat}{P:List (Bh (n+1))}{k d:Nat}{x:Tm k}{y:Tm d}(c:au k x d y=true)(s:Sy)(room a b:Int):s.do n P room 3 a b k x=s.do n P room 3 a b d y:=by
 unfold Sy.do Sy.inject;rw[bH c,co _ _ _ _ c,gL c]
def pS:ByteArray:=⟨#[99,111,117,110,116]⟩
def Oa:ByteArray:=⟨#[117,112]⟩
def N9:ByteArray:=⟨#[97,115,107]⟩
def NF:ByteArray:=⟨#[104,97,118,101]⟩
def sy:ByteArray:=⟨#[102,111,114,107]⟩
def Br:ByteArray:=⟨#[98,97,100]⟩
def wA:ByteArray:=⟨#[97]⟩
def M1:Option Addr×Nat:=(none,0)
def Hh(N:Nat):Tm (N+1):=bF 6 0 N
def Ko(a:Int)(N:Nat):Tm (N+1):=bF 1 a N
def Hk(a:Int)(N:Nat):Tm (N+1):=bF 5 a N
def eO:List (Bh 2):=[(pS,M1,[
 ((Hk 0 1,cR 1 [aU Oa 0,Hk 1 0],cR 1 [aU uW 0,Hk 0 0,Hk 1 0]),M1,[]),
 ((Hk 0 1,cR 1 [aU N9 0,Hk 1 0],Hk 0 1),M1,[(1,(Hk 1 1,cR 1 [aU NF 0,Hk 0 0]),.empty,0)]),
 ((Hh 1,aU sy 1,Ko 1 1),M1,[(2,(zT 1,Ko 0 1),pS,0),(3,(Hk 0 1,zT 1),.empty,0),(1,(Hk 0 1,cR 1 [aU Oa 0,Ko 7 0]),.empty,0)]),
 ((Hh 1,aU kU 1,Ko 0 1),M1,[(4,(zT 1,zT 1),.empty,0)]),
 ((Hh 1,aU Br 1,cR 1 [aU uW 0,aU wA 0,aU wA 0]),M1,[])])]
def uq:Tc:=cR 12 [aU Oa 11,Ko 3 11]
def EN:Sy:=(JV.start 1 eO 60 pS 1 (Ko 2 0)).1
theorem Ho:mZ 1 eO=0:=by kernel_rfl
theorem EO:(JV.start 1 eO 60 pS 1 (Ko 2 0)).2=0/\EN.last=1:=⟨by kernel_rfl,by kernel_rfl⟩
def JU:List (Int×Int×Int×Tc):=[(3,1,0,uq),(1,1,0,ve),(3,1,0,aU sy 12),(1,1,0,ve),(2,1,2,ve),(1,2,0,ve)]
def Np:List (Int×Int×Int×Tc):=[(3,1,0,aU Br 12),(1,1,0,ve)]
def Hi(s:Sy)(e:Int×Int×Int×Tc):Sy×Int:=s.do 1 eO 60 e.1 e.2.1 e.2.2.1 13 e.2.2.2
def xC(s:Sy)(l:List (Int×Int×Int×Tc)):Sy:=l.foldl (λs e=>(Hi s e).1) s
def BX:Sy->List (Int×Int×Int×Tc)->Bool
 | _,[]=>true
 | s,e::l=>(Hi s e).2==0 && BX (Hi s e).1 l
theorem Hl:BX EN JU=true:=by kernel_rfl
theorem Kq:BX (xC EN JU) Np=true:=by kernel_rfl
theorem Mq:(xC EN JU).ps.map (·.1)=[1,2]:=by kernel_rfl
theorem Hm:((xC EN JU).get 2).map (λv=>(v.1,v.2.1.1))=some (pS,1,7,.empty):=by kernel_rfl
theorem Kp:(xC (xC EN JU) Np).ps=[]:=by kernel_rfl
def tM(c:UInt8):Bool:=decide (48<=(c.toNat:Int)) && decide ((c.toNat:Int)<=57)
def ib(l:List UInt8):Bool:=l.all tM
def kH(l:List UInt8):Int:=l.foldl (λn c=>10*n+((c.toNat:Int)-48)) 0
def ew(s:ByteArray)(m:Int):Bool:=decide (1<=(s.size:Int)) && decide ((s.size:Int)<=m) && !(s.data.toList[0]?==some 48 && decide (1<(s.size:Int))) && ib s.data.toList
theorem tN(s:ByteArray)(k:Nat)(a:k<s.size):ib (s.data.toList.take (k+1))=(ib (s.data.toList.take k) && tM s[k]):=by
 rw[rL s k a];simp[ib]
theorem Fz(s:ByteArray)(k:Nat)(a:k<s.size):kH (s.data.toList.take (k+1))=10*kH (s.data.toList.take k)+((s[k].toNat:Int)-48):=by
 rw[rL s k a];simp[kH]
theorem Cy(l:List UInt8):ib l=true->0<=kH l/\kH l<10 ^ l.length:=by
 suffices g:∀(l:List UInt8)(a:Int)(b:Nat),ib l=true->0<=a->a<10 ^ b->0<=l.foldl (λn c=>10*n+((c.toNat:Int)-48)) a/\l.foldl (λn c=>10*n+((c.toNat:Int)-48)) a<10 ^ (b+l.length) by
  intro d;have:=g l 0 0 d (by omega) (by simp);simpa [kH]using this
 intro l
 induction l with
 | nil=>intro a b _ e f;exact⟨e,f⟩
 | cons c l ih=>
  intro a b d e f;simp only[ib,iE,ay,tM,bT]at d;have:=ih (10*a+((c.toNat:Int)-48)) (b+1) (by simp only[ib];exact d.2) (by omega) (by rw[Int.pow_succ];omega);simp only[fU,aV];rw[show b+(l.length+1)=b+1+l.length by omega];exact this
theorem Cz(s:ByteArray)(k:Nat)(d:k<=14)(c:ib (s.data.toList.take k)=true):0<=kH (s.data.toList.take k)/\kH (s.data.toList.take k)<100000000000000:=by
 have a:=Cy _ c;refine⟨a.1,Int.lt_of_lt_of_le a.2 ?_⟩;have:(10:Int) ^ (s.data.toList.take k).length<=10 ^ 14:=by
  have b:(10:Nat) ^ (s.data.toList.take k).length<=10 ^ 14:=Nat.pow_le_pow_right (by omega) (by simp;omega)
  exact_mod_cast b
 simpa using this
theorem vK(s:ByteArray)(k:Nat)(a:k<s.size)(c:tM s[k]=false):ib s.data.toList=false:=by
 have b:ib s.data.toList=(ib (s.data.toList.take (k+1)) && ib (s.data.toList.drop (k+1))):=by
  conv=>lhs;rw[<-jf (k+1) s.data.toList]
  simp only[ib,jV]
 rw[b,tN s k a,c];simp
theorem qr(s:ByteArray)(a:0<s.size):s.data.toList[0]?=some s[0]:=by
 rw[aD (by simpa using a)];rfl
theorem MB(s:ByteArray)(e:0<s.size)(f:s[0]=48):(s.toList==[48])=decide (¬1<s.size):=by
 rw[bW];have b:=qr s e;rw[f]at b;have a:s.data.toList.length=s.size:=by simp
 cases d:s.data.toList with
 | nil=>rw[d]at a;simp at a;omega
 | cons c l=>
  rw[d]at b a;simp at b;subst b;cases l with
  | nil=>simp at a;simp;omega
  | cons g l=>simp at a;simp;omega
theorem A5{s:ByteArray}(b:0<s.size):s.toList.isEmpty=false:=by
 rw[bW,List.isEmpty_eq_false_iff];intro a;have:s.data.toList.length=s.size:=by simp
 rw[a]at this;simp at this;omega
theorem A4{s:ByteArray}(a:¬0<s.size):s.toList.isEmpty=true:=by
 rw[bW,List.isEmpty_iff];apply bD;have:s.data.toList.length=s.size:=by simp
 omega
theorem jC{c:UInt8}{k:Nat}{d:UInt8}(b:d.toNat=k)(a:¬c=d):¬((c.toNat:Int)=k):=λe=>a (UInt8.toNat.inj (by omega))
def Ma(s:ByteArray)(m:Int)(e:Ending):Prop:=
 ∃(a:Int)(b:Bool),e=.returned (.tuple #[.int .i64 a,.bool b])/\Hid (b=ew s m/\0<=a/\a<100000000000000/\(b=true->a=kH s.data.toList))
theorem ny(s:ByteArray)(m:Int)(w:World)(F:s.size<=9223372036854775807)(E:m<=13):ah 128 #[.string s,.int .i64 m] w λe w'=>Ma s m e/\w'=w:=by
 go_enter Tryz.func128,Tryz.ntmps128;by_cases g:0<s.size
 ·have n:=A5 g;have B:(s.toList=[])=False:=by simpa using n
  by_cases l:(s.size:Int)<=m
  ·have A:decide (m<(s.size:Int))=false:=by simp;omega
   have i:s[0]=48->(s.toList==[48])=decide (¬1<s.size):=MB s g;by_cases c:s[0]=48/\1<s.size
   ·obtain⟨c,a⟩:=c;have j:(s.toList==[48])=false:=by rw[i c];simp;omega
    have b:Hid (ew s m=false):=by simp[Hid,ew,qr s g,c];omega
    clear i;go_wp2_with fail
    all_goals go_ret2
    all_goals exact⟨⟨0,false,rfl,b.out.symm,by omega,by omega,by simp⟩,rfl⟩
   ·have b:Hid (ew s m=ib s.data.toList):=by
      simp only[Hid,ew];rw[qr s g];by_cases a:s[0]=48
      ·have:¬1<s.size:=λf=>c ⟨a,f⟩;simp[l];omega
      ·simp[l,a];omega
    have j:(s[0]=48/\(s.toList==[48])=true)\/¬((s[0].toNat:Int)=48):=by
     by_cases a:s[0]=48
     ·have C:¬1<s.size:=λf=>c ⟨a,f⟩;exact ae ⟨a,by rw[i a];simp;omega⟩
     ·exact af (jC (k:=48) rfl a)
    clear i c;rcases j with⟨a,j⟩|j
    all_goals
     go_wp2_with fail
     go_loop [6,7] (λt p=>∃k:Nat,∃h:Int,k<=s.size/\p=.int .i64 k/\t=.int .i64 h/\Hid (h=kH (s.data.toList.take k)/\ib (s.data.toList.take k)=true)) (λ_ p=>s.size-(intOf p).toNat)
     case atStart=>exact⟨0,0,aB _,rfl,rfl,by simp[Hid,ib,kH]⟩
     case round=>
      obtain⟨k,h,D,rfl,rfl,d⟩:=hrel;have u:=Cz s k (by omega) d.out.2;rw[<-d.out.1]at u;obtain⟨G,H⟩:=u;by_cases o:k<s.size
      ·have y:=aj (tN s k o);have z:=aj (Fz s k o);have q:Hid (tM s[k]=false->false=ew s m):=λf=>by rw[b.out,vK s k o f]
       by_cases d1:48<=(s[k].toNat:Int)
       ·by_cases r:(s[k].toNat:Int)<=57
        ·go_wp2_with fail
         go_round
         case rel=>exact⟨k+1,10*h+((s[k].toNat:Int)-48),by omega,by go_num,by go_num,by rw[z.out,d.out.1],by rw[y.out,d.out.2];simp[tM,d1,r]⟩
         case measure=>simp[intOf];omega
        ·go_wp2_with fail
         go_ret2
         exact⟨⟨0,false,rfl,q.out (by simp[tM,r]),by omega,by omega,by simp⟩,rfl⟩
       ·go_wp2_with fail
        go_ret2
        exact⟨⟨0,false,rfl,q.out (by simp[tM];omega),by omega,by omega,by simp⟩,rfl⟩
      ·go_wp2_with fail
       go_ret2
       have v:s.data.toList.take k=s.data.toList:=bw (by simp;omega);refine⟨⟨h,true,rfl,?_,by omega,by omega,λ_=>?_⟩,rfl⟩
       ·rw[b.out,<-v,d.out.2]
       ·rw[d.out.1,v]
  ·have A:m<(s.size:Int):=by omega
   have b:Hid (ew s m=false):=by simp[Hid,ew,l]
   go_wp2_with fail
   all_goals go_ret2
   all_goals exact⟨⟨0,false,rfl,b.out.symm,by omega,by omega,by simp⟩,rfl⟩
 ·have n:=A4 g;have B:(s.toList=[])=True:=by simpa using n
  have x:s.size=0:=by omega
  have b:Hid (ew s m=false):=by simp[Hid,ew,x]
  clear x;go_wp2_with fail
  all_goals go_ret2
  all_goals exact⟨⟨0,false,rfl,b.out.symm,by omega,by omega,by simp⟩,rfl⟩
end Go.Proofs.YtckamaoibonjcaaGreat
