/- What is proved here: plain facts and contracts that the claimed theorem stands on. No condition but those that each names. -/
import Derived.Test.YtckamaoibonjcaaGreatG39
namespace Go.Proofs.YtckamaoibonjcaaGreat
open Go.RowKit
set_option maxRecDepth 100000
set_option maxHeartbeats 4000000
theorem Bn(g:Nat)(j:Option Nat)(a:Int)(w:World)(t:g<w.heap.size)(l:Hid (w.cell? ⟨g,3,none⟩=some (.map j)))(m:Hid (∀W,ag w W->(Instr.lookup 62 (.map j) (.int .i64 a) true).run Tryz.prog W=.ok (.tuple #[.pointer none,.bool false]) W)):ah 7 #[.pointer (some ⟨g,0,none⟩),.int .i64 a] w λe w'=>e=.returned (.tuple #[.string ⟨#[]⟩,.agg #[.int .i64 0,.int .i64 0,.string ⟨#[]⟩,.slice none 0 0],.slice none 0 0,.int .i64 4])/\ag w w':=by
 go_enter Tryz.func7,Tryz.ntmps7;go_upto_region 1 with fail;generalize i:w.alloc _=c;have HB:Hid (ag w c):=by
  rw[<-i];exact(ak _ _).alloc (ai _) _
 have d:c.heap[w.heap.size]?=some (.cells #[.int .i64 0,.int .i64 0,.string ⟨#[]⟩,.slice none 0 0] 30):=by
  rw[<-i];exact ay _ _
 clear i;have B:=m.out _ HB.out;have u:c.cell? ⟨g,3,none⟩=some (.map j):=(HB.out.cell (p:=⟨g,3,none⟩) t).trans l.out;clear m l;have k:Hid (ag w (cF c w.heap.size 0 (.int .i64 0) (.int .i64 0) (.string ⟨#[]⟩) (.slice none 0 0))):=(dp (o:=0) (v0:=.int .i64 0) (v1:=.int .i64 0) (v2:=.string ⟨#[]⟩) (v3:=.slice none 0 0) HB.out (ai _));have f:=aj (rL d (.int .i64 0) (.int .i64 0) (.string ⟨#[]⟩) (.slice none 0 0));obtain⟨b,h⟩:∃b,b=w.heap.size:=⟨_,rfl⟩;rw[<-h]at d f k ⊢;have s:=aj h;clear h HB;have C:c.cell? ⟨b,0,none⟩=some (.int .i64 0):=ab d 0;have D:c.cell? ⟨b,1,none⟩=some (.int .i64 0):=ab d 1;have E:c.cell? ⟨b,2,none⟩=some (.string ⟨#[]⟩):=ab d 2;have F:c.cell? ⟨b,3,none⟩=some (.slice none 0 0):=ab d 3;have x:c.frozen? ⟨b,0,none⟩=false:=by simp[World.frozen?,d]
 have y:c.frozen? ⟨b,1,none⟩=false:=by simp[World.frozen?,d]
 have z:c.frozen? ⟨b,2,none⟩=false:=by simp[World.frozen?,d]
 have A:c.frozen? ⟨b,3,none⟩=false:=by simp[World.frozen?,d]
 clear d;go_wp2_with fail;have n:(cF c b 0 (.int .i64 0) (.int .i64 0) (.string ⟨#[]⟩) (.slice none 0 0)).cell? ⟨b,0,none⟩=some (.int .i64 0):=ab f.out 0;have d1:(cF c b 0 (.int .i64 0) (.int .i64 0) (.string ⟨#[]⟩) (.slice none 0 0)).cell? ⟨b,1,none⟩=some (.int .i64 0):=ab f.out 1;have q:(cF c b 0 (.int .i64 0) (.int .i64 0) (.string ⟨#[]⟩) (.slice none 0 0)).cell? ⟨b,2,none⟩=some (.string ⟨#[]⟩):=ab f.out 2;have r:(cF c b 0 (.int .i64 0) (.int .i64 0) (.string ⟨#[]⟩) (.slice none 0 0)).cell? ⟨b,3,none⟩=some (.slice none 0 0):=ab f.out 3;simp only[cF,cO]at n d1 q r;exact aq (v:=.tuple #[.string ⟨#[]⟩,.agg #[.int .i64 0,.int .i64 0,.string ⟨#[]⟩,.slice none 0 0],.slice none 0 0,.int .i64 4]) (by simp[results,Tryz.results7,go_sem,n,d1,q,r]) rfl ⟨rfl,s.out▸k.out⟩
theorem aX.procN{p:lq}{s:Sy}{d:gm}{w:World}(c:aX p s d w){a:Int}(g:s.get a=none):ah 7 #[.pointer (some ⟨p.b,0,none⟩),.int .i64 a] w λe w'=>e=.returned (.tuple #[.string ⟨#[]⟩,.agg #[.int .i64 0,.int .i64 0,.string ⟨#[]⟩,.slice none 0 0],.slice none 0 0,.int .i64 4])/\ag w w':=by
 refine Bn p.b d.po a w c.lo.2 c.cells.2.2.2 λi f=>?_;have h:cM d.l a=none:=by
  have:=c.alive a;rw[g]at this;simpa using this
 have:=(c.later f).look a true;rw[if_pos rfl,h]at this;exact this
theorem B4(G:Option Addr)(I H:Nat)(room:Int)(sa:Option Addr)(sl sc:Nat)(nm t:Nat->ByteArray)(r s:Nat->Int)(xa:Nat->Option Addr)(u xc:Nat->Nat)(w:World)(x:Value->Int->World->Prop)(m:Nat->Nat->World->Prop)(R:Value->World->Prop)(Z:sl<=9223372036854775807)(E:Hid (ah 17 #[.slice G I H,.int .i64 room] w λe w'=>∃v b,e=.returned (.tuple #[v,.int .i64 b])/\Hid (x v b w')))(i:Hid (∀v b W,x v b W->(b≠0\/4<sl)->R (.pointer none) W))(p:Hid (∀v W,x v 0 W->sl<=4->∃a,v=.pointer (some ⟨a,0,none⟩)/\m a 0 W))(l:Hid (∀a j W,j<sl->m a j W->∃g o,(sa=some ⟨g,o,none⟩/\W.cell? ⟨g,o+j*5,none⟩=some (.string (nm j))/\W.cell? ⟨g,o+j*5+1,none⟩=some (.int .i64 (r j))/\W.cell? ⟨g,o+j*5+2,none⟩=some (.int .i64 (s j))/\W.cell? ⟨g,o+j*5+3,none⟩=some (.string (t j))/\W.cell? ⟨g,o+j*5+4,none⟩=some (.slice (xa j) (u j) (xc j)))/\Hid (∀F,ag W F->ah 19 #[.pointer (some ⟨a,0,none⟩),.string (nm j),.agg #[.int .i64 (r j),.int .i64 (s j),.string (t j),.slice (xa j) (u j) (xc j)]] F λe w'=>∃v b,e=.returned (.tuple #[.int .i64 v,.int .i64 b])/\Hid (m a (j+1) w'))))(h:Hid (∀a W,m a sl W->R (.pointer (some ⟨a,0,none⟩)) W)):ah 6 #[.slice G I H,.int .i64 room,.slice sa sl sc] w λe w'=>∃v,e=.returned v/\Hid (R v w'):=by
 go_enter Tryz.func6,Tryz.ntmps6;go_wp2_with fail;refine E.out.mono ?_;rintro e am ⟨v,b,rfl,d⟩;clear E;by_cases z:b=0;rotate_left
 ·have k:=aj (i.out _ _ _ d.out (ae z));have aa:(b==0)=false:=by simpa using z
  clear i p l h d;go_wp2_with fail
  go_ret
  exact⟨_,rfl,k.out⟩
 subst z;by_cases Q:sl<=4;rotate_left
 ·have k:=aj (i.out _ _ _ d.out (af (by omega)));have S:(4:Int)<(sl:Int):=by omega
  clear i p l h d;go_wp2_with fail
  go_ret
  exact⟨_,rfl,k.out⟩
 obtain⟨a,rfl,y⟩:=p.out _ _ d.out Q;have C:=aj y;have S:¬(4:Int)<(sl:Int):=by omega
 clear i p d y;go_wp2_with fail;go_loopw [10,26] (λ_ B wr=>∃(j:Nat),j<=sl/\B=.int .i64 j/\Hid (m a j wr)) (λ_ B _=>sl-(intOf B).toNat)
 case atStart=>exact⟨0,aB _,rfl,C.out⟩
 case round=>
 clear C;obtain⟨j,y,rfl,q⟩:=hrel;by_cases T:j<sl
 ·obtain⟨g,o,⟨rfl,L,M,N,O,P⟩,D⟩:=l.out a j _ T q.out;have ad:(0:Int)<=(j:Int):=by omega
  have al:(j:Int)<(sl:Int):=by omega
  clear l h q;go_upto_region 7 with fail;generalize A:World.alloc _ _=c;have f:c.heap[wr.heap.size]?=some (.cells #[.string (nm j),.int .i64 (r j),.int .i64 (s j),.string (t j),.slice (xa j) (u j) (xc j)] 59):=by
   rw[<-A];exact ay _ _
  have K:=aj (D.out c (by rw[<-A];exact(ak _ _).alloc (ai _) _));generalize wr.heap.size=n at*;have U:c.cell? ⟨n,0,none⟩=some (.string (nm j)):=ab f 0;have d1:c.cell? ⟨n,1,none⟩=some (.int .i64 (r j)):=ab f 1;have V:c.cell? ⟨n,2,none⟩=some (.int .i64 (s j)):=ab f 2;have X:c.cell? ⟨n,3,none⟩=some (.string (t j)):=ab f 3;have Y:c.cell? ⟨n,4,none⟩=some (.slice (xa j) (u j) (xc j)):=ab f 4;clear A f D L M N O P;go_wp2_with fail;refine K.out.mono ?_;rintro e an ⟨v,b,rfl,J⟩;go_wp2_with fail;go_roundw
  case rel=>exact⟨j+1,by omega,by go_num,J.out⟩
  case measure=>simp[intOf];omega
 ·obtain rfl:j=sl:=by omega
  have k:=aj (h.out _ _ q.out);clear l h q;go_wp2_with fail
  go_ret
  exact⟨_,rfl,k.out⟩
def Ox(a:Option Addr)(L:Nat)(b:Nat->Bool)(i:Value->World->Bool->Prop)(w:World):Prop:=∀j,j<L->∃g o nm c v d e f xa h xc,(a=some ⟨g,o,none⟩/\g<w.heap.size/\w.cell? ⟨g,o+j*7,none⟩=some (.string nm)/\w.cell? ⟨g,o+j*7+1,none⟩=some (.int .i64 c)/\w.cell? ⟨g,o+j*7+2,none⟩=some (.int .i64 v)/\w.cell? ⟨g,o+j*7+3,none⟩=some (.int .i64 d)/\w.cell? ⟨g,o+j*7+4,none⟩=some (.int .i64 e)/\w.cell? ⟨g,o+j*7+5,none⟩=some (.string f)/\w.cell? ⟨g,o+j*7+6,none⟩=some (.slice xa h xc))/\Hid (∀W,ag w W->i (.agg #[.string nm,.int .i64 c,.int .i64 v,.int .i64 d,.int .i64 e,.string f,.slice xa h xc]) W (b j))
theorem Aq(a:Option Addr)(L c:Nat)(b:Nat->Bool)(w:World)(H:L<=1000000)(A:Hid (Ox a L b (λv W t=>ah 11 #[v] W λe w'=>e=.returned (.bool t)/\ag W w') w)):ah 29 #[.slice a L c,.func (Fn.func 11) #[] #[]] w λe w'=>∃r:Int,e=.returned (.int .i64 r)/\(0<=r ↔∃j,j<L/\b j=true)/\ag w w':=by
 go_enter Tryz.func29,Tryz.ntmps29;go_wp2_with fail;go_loopw [5,8] (λ_ i wr=>∃j:Nat,j<=L/\i=.int .i64 j/\Hid (ag w wr/\∀k,k<j->b k=false)) (λ_ i _=>L-(intOf i).toNat)
 case atStart=>exact⟨0,aB _,rfl,ak _ _,λk g=>absurd g (Nat.not_lt_zero k)⟩
 case round=>
  obtain⟨j,I,rfl,HB⟩:=hrel;by_cases z:j<L
  ·obtain⟨G,o,K,M,v,O,P,Q,R,T,S,⟨rfl,f,m,n,p,q,s,u,x⟩,B⟩:=A.out j z;have d:=am HB.out.1;replace m:=(d _ _ f).trans m;replace n:=(d _ _ f).trans n;replace p:=(d _ _ f).trans p;replace q:=(d _ _ f).trans q;replace s:=(d _ _ f).trans s;replace u:=(d _ _ f).trans u;replace x:=(d _ _ f).trans x;clear d;have F:(0:Int)<=(j:Int):=by omega
   have J:(j:Int)<(L:Int):=by omega
   have D:=B.out _ HB.out.1;go_wp2_with fail;refine D.mono ?_;rintro e N ⟨rfl,C⟩;have l:=aj (HB.out.1.trans (C.mono HB.out.1.size));cases hbj:b j with
   | true=>
    go_wp2_with fail
    go_ret
    exact⟨_,rfl,⟨λ_=>⟨j,z,hbj⟩,λ_=>F⟩,l.out⟩
   | false=>
    go_wp2_with fail;go_roundw
    case rel=>exact⟨j+1,by omega,by go_num,l.out,λk g=>by rcases Nat.lt_succ_iff_lt_or_eq.1 g with h|h;exact HB.out.2 k h;exact h▸hbj⟩
    case measure=>simp[intOf];omega
  ·have E:j=L:=by omega
   subst E;go_wp2_with fail
   go_ret
   refine⟨_,rfl,⟨λh=>absurd h (by decide),λ⟨k,g,y⟩=>?_⟩,HB.out.1⟩;rw[HB.out.2 k g]at y;cases y
theorem vt(a:Option Addr)(L c:Nat)(b:Nat->Bool)(w:World)(h:L<=1000000)(f:Hid (Ox a L b (λv W t=>ah 11 #[v] W λe w'=>e=.returned (.bool t)/\ag W w') w)):ah 9 #[.slice a L c,.func (Fn.func 11) #[] #[]] w λe w'=>∃t:Bool,e=.returned (.bool t)/\(t=true ↔∃j,j<L/\b j=true)/\ag w w':=by
 go_enter Tryz.func9,Tryz.ntmps9;go_wp2_with fail;refine(Aq a L c b w h f).mono ?_;rintro e l ⟨k,rfl,d,i⟩;have g:=aj d;clear d;go_wp2_with fail
 go_ret
 refine⟨decide (0<=k),?_,by rw[decide_eq_true_iff];exact g.out,i⟩;simp
theorem JL(a:Nat)(W:World):(binOp .eql 26 (.pointer (some ⟨a,0,none⟩)) (.pointer none)).run Tryz.prog W=.ok (.bool false) W:=by kernel_rfl
theorem LA(W:World):(binOp .eql 26 (.pointer none) (.pointer none)).run Tryz.prog W=.ok (.bool true) W:=by kernel_rfl
def Og(c:Nat)(kd a b d f:Int)(g:ByteArray)(xa:Option Addr)(h xc:Nat)(P:World->Prop)(W:World):Prop:=ah 8 #[.pointer (some ⟨c,0,none⟩),.agg #[.int .i64 kd,.int .i64 a,.int .i64 b,.int .i64 d,.int .i64 f,.string g,.slice xa h xc]] W λe w'=>∃v,e=.returned (.int .i64 v)/\Hid (P w')
def OD(g:Nat)(i kd a b j k:Int)(l:ByteArray)(xa:Option Addr)(m xc:Nat)(P:World->Prop)(W:World):Prop:=ah 7 #[.pointer (some ⟨g,0,none⟩),.int .i64 i] W λe w'=>∃nm y0 y1 y2 ya yl yc ma d h f,e=.returned (.tuple #[.string nm,.agg #[.int .i64 y0,.int .i64 y1,.string y2,.slice ya yl yc],.slice ma d h,.int .i64 f])/\Hid (ag W w'/\∀c,ag w' c->(f=0->3<=d->P c)/\(¬(f=0/\3<=d)->Og g kd a b j k l xa m xc P c))
theorem Gh(aE:Option Addr)(aG aF:Nat)(sa:Option Addr)(sl sc:Nat)(aJ:Option Addr)(h aX:Nat)(b n p y z:Nat->Int)(A:Nat->ByteArray)(B:Nat->Option Addr)(D C:Nat->Nat)(w:World)(u:Nat->Nat->World->Prop)(a1:h<=1048576)(s:Hid (ah 5 #[] w λe w'=>e=.returned (.bool true)/\ag w w'))(HB:Hid (∀W,ag w W->ah 6 #[.slice aE aG aF,.int .i64 1000,.slice sa sl sc] W λe w'=>(e=.returned (.pointer none)/\Hid (ag w w'))\/∃d,e=.returned (.pointer (some ⟨d,0,none⟩))/\Hid (u d 0 w')))(K:Hid (∀d j W,u d j W->ag w W))(F:Hid (∀d j W,j<h->h<=60->u d j W->∃g o,(aJ=some ⟨g,o,none⟩/\W.cell? ⟨g,o+j*7,none⟩=some (.int .i64 (b j))/\W.cell? ⟨g,o+j*7+1,none⟩=some (.int .i64 (n j))/\W.cell? ⟨g,o+j*7+2,none⟩=some (.int .i64 (p j))/\W.cell? ⟨g,o+j*7+3,none⟩=some (.int .i64 (y j))/\W.cell? ⟨g,o+j*7+4,none⟩=some (.int .i64 (z j))/\W.cell? ⟨g,o+j*7+5,none⟩=some (.string (A j))/\W.cell? ⟨g,o+j*7+6,none⟩=some (.slice (B j) (D j) (C j)))/\ Hid (∀O,ag W O->(b j≠2->b j≠3->Og d (b j) (n j) (p j) (y j) (z j) (A j) (B j) (D j) (C j) (u d (j+1)) O)/\∀r,(b j=2/\r=p j)\/(b j=3/\r=n j)->OD d r (b j) (n j) (p j) (y j) (z j) (A j) (B j) (D j) (C j) (u d (j+1)) O)))(G:Hid (∀d W,h<=60->u d h W->ah 10 #[.pointer (some ⟨d,0,none⟩)] W λe w'=>∃a L c,e=.returned (.slice a L c)/\Hid (ah 9 #[.slice a L c,.func (Fn.func 11) #[] #[]] w' λe w2=>e=.returned (.bool false)/\ag w w2))):ah 3 #[.slice aE aG aF,.slice sa sl sc,.slice aJ h aX] w λe w'=>e=.returned (.bool true)/\ag w w':=by
 go_enter Tryz.func3,Tryz.ntmps3;go_wp2_with fail;refine s.out.mono ?_;rintro e a7 ⟨rfl,Y⟩;have ad:=aj Y;clear s Y;go_wp2_with fail;refine(HB.out _ ad.out).mono ?_;clear HB ad;rintro e w2 (⟨rfl,N⟩|⟨d,rfl,I⟩)
 ·have aV:=LA;clear F G K;go_wp2_with fail
  go_ret
  exact⟨rfl,N.out⟩
 have aV:=JL d;by_cases aD:h<=60;rotate_left
 ·have aT:(60:Int)<(h:Int):=by omega
  have N:=aj (K.out _ _ _ I.out);clear F G I K;go_wp2_with fail
  go_ret
  exact⟨rfl,N.out⟩
 have aT:¬(60:Int)<(h:Int):=by omega
 clear K;go_wp2_with fail;go_loopw [9,10,11,12,13,14,29] (λ_ _ _ _ _ _ V wr=>∃(j:Nat),j<=h/\V=.int .i64 j/\Hid (u d j wr)) (λ_ _ _ _ _ _ V _=>h-(intOf V).toNat)
 case atStart=>exact⟨0,aB _,rfl,I.out⟩
 case round=>
 clear I;obtain⟨j,aU,rfl,s⟩:=hrel;by_cases az:j<h;rotate_left
 ·obtain rfl:j=h:=by omega
  have am:=aj (G.out _ _ aD s.out);clear F G s aU az;go_wp2_with fail;refine am.out.mono ?_;rintro e a8 ⟨a,L,c,rfl,aa⟩;clear am;go_wp2_with fail;refine aa.out.mono ?_;rintro e a9 ⟨rfl,au⟩;have aK:=aj au;clear aa au;go_wp2_with fail
  go_ret
  exact⟨rfl,aK.out⟩
 obtain⟨g,o,⟨rfl,aL,aM,aN,aO,aP,aQ,aR⟩,al⟩:=F.out d j _ az aD s.out;have a2:(0:Int)<=(j:Int):=by omega
 have a3:(j:Int)<(h:Int):=by omega
 clear F s G;go_upto_region 9 with fail;generalize U:World.alloc _ _=m;have H:m.heap[wr.heap.size]?=some (.cells #[.int .i64 (b j),.int .i64 (n j),.int .i64 (p j),.int .i64 (y j),.int .i64 (z j),.string (A j),.slice (B j) (D j) (C j)] 32):=by
  rw[<-U];exact ay _ _
 have J:=aj (al.out m (by rw[<-U];exact(ak _ _).alloc (ai _) _));generalize wr.heap.size=f at*;have M:m.cell? ⟨f,0,none⟩=some (.int .i64 (b j)):=ab H 0;have d1:m.cell? ⟨f,1,none⟩=some (.int .i64 (n j)):=ab H 1;have P:m.cell? ⟨f,2,none⟩=some (.int .i64 (p j)):=ab H 2;have t:=aj H;clear U H al aL aM aN aO aP aQ aR
 -- what is left of a round behind Proc
 by_cases l:b j=2\/b j=3
 ·obtain⟨r,aA⟩:∃r,(b j=2/\r=p j)\/(b j=3/\r=n j):=by
    rcases l with Q|Q
    ·exact⟨_,ae ⟨Q,rfl⟩⟩
    ·exact⟨_,af ⟨Q,rfl⟩⟩
  have k:=aj (J.out.2 r aA);clear J l;rcases aA with⟨l,rfl⟩|⟨l,rfl⟩
  all_goals
   rw[l]at M;go_wp2_with fail;refine k.out.mono ?_;rintro e aW ⟨a6,y0,y1,y2,ya,yl,yc,a4,X,a5,aH,rfl,Z⟩;clear k M d1 P;go_upto_region 14 with fail;generalize aC:World.alloc _ _=i;have R:ag aW i:=by rw[<-aC];exact(ak _ _).alloc (ai _) _
   obtain⟨S,av⟩:=Z.out;have x:=aj (av i R);have q:=fo (S.trans (R.mono S.size)) t.out;have M:i.cell? ⟨f,0,none⟩=some (.int .i64 (b j)):=ab q 0;have d1:i.cell? ⟨f,1,none⟩=some (.int .i64 (n j)):=ab q 1;have P:i.cell? ⟨f,2,none⟩=some (.int .i64 (p j)):=ab q 2;have an:i.cell? ⟨f,3,none⟩=some (.int .i64 (y j)):=ab q 3;have ao:i.cell? ⟨f,4,none⟩=some (.int .i64 (z j)):=ab q 4;have ap:i.cell? ⟨f,5,none⟩=some (.string (A j)):=ab q 5;have aq:i.cell? ⟨f,6,none⟩=some (.slice (B j) (D j) (C j)):=ab q 6;clear aC R Z S av q t l;by_cases T:aH=0
   ·subst T;by_cases ar:3<=X
    ·have aS:(3:Int)<=(X:Int):=by omega
     have k:=aj (x.out.1 rfl ar);clear x M d1 P an ao ap aq;go_wp2_with fail;go_roundw
     case rel=>exact⟨j+1,by omega,by go_num,k.out⟩
     case measure=>simp[intOf];omega
    ·have aS:¬(3:Int)<=(X:Int):=by omega
     have k:=aj (x.out.2 λv=>ar v.2);clear x;go_wp2_with fail;refine k.out.mono ?_;rintro e i ⟨aI,rfl,E⟩;go_wp2_with fail;go_roundw
     case rel=>exact⟨j+1,by omega,by go_num,E.out⟩
     case measure=>simp[intOf];omega
   ·have a0:(aH==0)=false:=by simpa using T
    have k:=aj (x.out.2 λv=>T v.1);clear x;go_wp2_with fail;refine k.out.mono ?_;rintro e i ⟨aI,rfl,E⟩;go_wp2_with fail;go_roundw
    case rel=>exact⟨j+1,by omega,by go_num,E.out⟩
    case measure=>simp[intOf];omega
 ·have aw:¬b j=2:=λv=>l (ae v);have ax:¬b j=3:=λv=>l (af v);have aY:(b j==2)=false:=by simpa using aw
  have aZ:(b j==3)=false:=by simpa using ax
  have k:=aj (J.out.1 aw ax);have an:m.cell? ⟨f,3,none⟩=some (.int .i64 (y j)):=ab t.out 3;have ao:m.cell? ⟨f,4,none⟩=some (.int .i64 (z j)):=ab t.out 4;have ap:m.cell? ⟨f,5,none⟩=some (.string (A j)):=ab t.out 5;have aq:m.cell? ⟨f,6,none⟩=some (.slice (B j) (D j) (C j)):=ab t.out 6;clear J l t;go_wp2_with fail;refine k.out.mono ?_;rintro e i ⟨aI,rfl,E⟩;go_wp2_with fail;go_roundw
  case rel=>exact⟨j+1,by omega,by go_num,E.out⟩
  case measure=>simp[intOf];omega
def xJ(o:Option (Int×List Int))(e:ByteArray×Int×Int×Tc):Option (Int×List Int):=o.bind λp=>
 if e.1=iP then if e.2.2.1=p.1+1 then some (p.1+1,p.2++ [p.1+1])else none
 else if e.1=il then if e.2.1∈p.2/\1<=e.2.2.1/\e.2.2.1<=4 then some (p.1,p.2.erase e.2.1)else none
 else if e.1=eY\/e.1=mF then if e.2.1∈p.2 then some p else none
 else if e.1=fV then some p else none
def tS(l:List (ByteArray×Int×Int×Tc)):Option (Int×List Int):=l.foldl xJ (some (0,[]))
theorem nX(l:List (ByteArray×Int×Int×Tc))(e:ByteArray×Int×Int×Tc):tS (l++ [e])=xJ (tS l) e:=by simp[tS]
theorem EZ{p q:Int×List Int}{e:ByteArray×Int×Int×Tc}(a:xJ (some p) e=some q):(e.1=iP/\e.2.2.1=p.1+1/\q=(p.1+1,p.2++ [p.1+1]))\/(e.1=il/\(e.2.1∈p.2/\1<=e.2.2.1/\e.2.2.1<=4)/\q=(p.1,p.2.erase e.2.1))\/((e.1=eY\/e.1=mF)/\e.2.1∈p.2/\q=p)\/(e.1=fV/\q=p):=by
 simp only[xJ,dd]at a;split at a
 ·split at a
  ·exact ae ⟨‹_›,‹_›,(ap a).symm⟩
  ·cases a
 ·split at a
  ·split at a
   ·exact af (ae ⟨‹_›,‹_›,(ap a).symm⟩)
   ·cases a
  ·split at a
   ·split at a
    ·exact af (af (ae ⟨‹_›,‹_›,(ap a).symm⟩))
    ·cases a
   ·split at a
    ·exact af (af (af ⟨‹_›,(ap a).symm⟩))
    ·cases a
theorem DW:(l:List (ByteArray×Int×Int×Tc))->∀{p:Int×List Int},tS l.reverse=some p->0<=p.1/\p.1<=l.length/\p.2.Nodup/\∀k∈p.2,1<=k/\k<=p.1
 | [],p,c=>by
  cases c;simp
 | e::l,p,c=>by
  rw[List.reverse_cons,nX]at c;cases h:tS l.reverse with
  | none=>rw[h]at c;cases c
  | some q=>
   obtain⟨i,n,g,f⟩:=DW l h;rw[h]at c;have o:(e::l).length=l.length+1:=rfl;rcases EZ c with⟨_,_,rfl⟩|⟨_,_,rfl⟩|⟨_,_,rfl⟩|⟨_,rfl⟩
   ·refine⟨by simp only;omega,by simp only;omega,eE.2 ⟨g,by simp,λa j b m e=>?_⟩,λk d=>?_⟩
    ·simp only[cZ]at m;have:=f a j;omega
    ·simp only[cN,cZ]at d ⊢;rcases d with d|rfl
     ·have:=f k d;omega
     ·omega
   ·exact⟨i,by simp only;omega,g.erase _,λk d=>f k (List.mem_of_mem_erase d)⟩
   all_goals exact⟨i,by omega,g,f⟩
structure dE (s:Sy):Prop where
 ev:tS s.evs=some (s.last,s.ps.map (·.1))
 len:s.ps.length<=12
 ok:vo s.bonds
 bd:∀x y,s.bonds (gN x y)=true->x∈s.ps.map (·.1)
 nms:∀q∈s.ps,q.2.1.size<=8
theorem dE.nodup{s:Sy}(a:dE s):(s.ps.map (·.1)).Nodup:=(DW s.evs.reverse (by rw[List.reverse_reverse];exact a.ev)).2.2.1
theorem dE.zero:dE ⟨0,[],λ_=> [],λ_=>false,[]⟩:=⟨rfl,by decide,λ_ a=>(by cases a),λ_ _ a=>(by cases a),λ_ a=>(by cases a)⟩
theorem uz(x:Int)(l:List (Int×ByteArray×Tc×List Tc)):(l.eraseP λp=>p.1==x).map (·.1)=(l.map (·.1)).erase x:=by
 induction l with
 | nil=>rfl
 | cons p l ih=>
  rw[List.eraseP_cons,aG,List.erase_cons];cases h:p.1==x
  ·simp[ih]
  ·simp
theorem LZ:il≠iP/\eY≠iP/\eY≠il/\mF≠iP/\mF≠il/\fV≠iP/\fV≠il/\fV≠eY/\fV≠mF:=by decide
theorem dE.tell{s:Sy}(c:dE s){wt:ByteArray}{a b:Int}{t:Tc}(m:wt=fV\/(wt=eY\/wt=mF)/\a∈s.ps.map (·.1)):dE (s.tell wt a b t):=by
 refine⟨?_,c.len,c.ok,c.bd,c.nms⟩;obtain⟨n,e,f,g,h,i,j,k,l⟩:=LZ;show tS (s.evs++ [(wt,a,b,t)])=_;rw[nX,c.ev];rcases m with rfl|⟨rfl|rfl,d⟩
 ·simp[xJ,i,j,k,l,Sy.tell]
 ·simp[xJ,e,f,d,Sy.tell]
 ·simp[xJ,g,h,d,Sy.tell]
theorem dE.add{s:Sy}(b:dE s)(j:s.ps.length+1<=12)(a:Int){nm:ByteArray}(d:nm.size<=8)(cs:Tc):dE (s.add a nm cs):=by
 refine⟨?_,by simp[Sy.add,Sy.tell];omega,b.ok,λh i f=>?_,λg e=>?_⟩
 ·show tS (s.evs++ [(iP,a,s.last+1,cs)])=_;rw[nX,b.ev];simp[xJ,Sy.add,Sy.tell]
 ·have:=b.bd h i f;simp only[Sy.add,Sy.tell,fF];exact mj _ this
 ·rcases cN.1 e with c|c
  ·exact b.nms g c
  ·rw[cZ.1 c];exact d
theorem xV{s:Sy}{k:Int}:(s.get k).isSome=true ↔ k∈s.ps.map (·.1):=by
 simp[Sy.get]
theorem t8{s:Sy}(b:dE s){k:Int}{v:ByteArray×Tc×List Tc}(a:s.get k=some v):v.1.size<=8:=by
 unfold Sy.get at a;obtain⟨d,c,rfl⟩:=bY.1 a;exact b.nms d (rZ c)
theorem dE.put{s:Sy}(a:dE s)(k:Int){v:ByteArray×Tc×List Tc}(f:v.1.size<=8):dE (s.put k v)/\(s.put k v).ps.map (·.1)=s.ps.map (·.1):=by
 have b:(s.put k v).ps.map (·.1)=s.ps.map (·.1):=by
  simp only[Sy.put,fG];refine ji λh _=>?_;simp only[Function.comp];split
  ·rename_i c;exact c.symm
  ·rfl
 refine⟨⟨by rw[b];exact a.ev,by simp[Sy.put];exact a.len,a.ok,by rw[b];exact a.bd,λi d=>?_⟩,b⟩;obtain⟨g,e,rfl⟩:=b9.1 d;split
 ·exact f
 ·exact a.nms g e
theorem dE.ways{s:Sy}(a:dE s)(f:Int×Int->List Tc):dE {s with ways:=f}:=⟨a.ev,a.len,a.ok,a.bd,a.nms⟩
theorem Ii:(l:List Int)->(s:Sy)->∀how:Int,1<=how->how<=4->l.Nodup->(∀y∈l,y∈s.ps.map (·.1))->tS s.evs=some (s.last,s.ps.map (·.1))->(s.ps.map (·.1)).Nodup-> tS (l.foldl (λs y=>s.drop y how) s).evs=some (s.last,(l.foldl (λs y=>s.drop y how) s).ps.map (·.1))/\(l.foldl (λs y=>s.drop y how) s).last=s.last/\(l.foldl (λs y=>s.drop y how) s).ps.length<=s.ps.length/\(l.foldl (λs y=>s.drop y how) s).bonds=s.bonds/\(∀q∈(l.foldl (λs y=>s.drop y how) s).ps,q∈s.ps)/\∀x,x∈(l.foldl (λs y=>s.drop y how) s).ps.map (·.1) ↔ x∈s.ps.map (·.1)/\x∉l
 | [],s,_,_,_,_,_,he,_=>by simp[he]
 | y::l,s,how,h1,h4,hn,hm,he,hd=>by
  obtain⟨i,j⟩:=kh.1 hn;have e:(s.drop y how).ps.map (·.1)=(s.ps.map (·.1)).erase y:=uz y s.ps;have h:=hm y (by simp)
  obtain⟨k,m,n,o,r,p⟩:=Ii l (s.drop y how) how h1 h4 j (λd f=>by
   rw[e]
   exact(List.mem_erase_of_ne λz2:d=y=>i (z2▸f)).2 (hm d (bE _ f))) (by
   show tS (s.evs++ [(il,y,how,vk)])=_;rw[nX,he,e];simp only[xJ,dd,LZ.1,if_false,cE];rw[if_pos ⟨h,h1,h4⟩]
   rfl) (by rw[e];exact hd.erase _)
  refine⟨k,m,av n ?_,o,λq g=>List.mem_of_mem_eraseP (r q g),λx=>?_⟩
  ·show (s.ps.eraseP _).length<=_;exact List.length_eraseP_le
  ·rw[fD,p,e,List.Nodup.mem_erase_iff hd,b8];constructor
   ·rintro ⟨⟨a,b⟩,c⟩;exact⟨b,λd=>d.elim a c⟩
   ·rintro ⟨a,b⟩;exact⟨⟨λd=>b (ae d),a⟩,λd=>b (af d)⟩
theorem Dv{g:Int×Int->Bool}(c:vo g){a:List Int}(b:∀x y,g (gN x y)=true->x∈a){x:Int}:∀y∈qU g x,y∈a:=by
 intro y f;obtain⟨h,d⟩:=cI f;obtain⟨k,_,e⟩:=(mT c x).from' h y d;exact b y k (by rw[Jd];exact(gU.1 e).2)
theorem dE.fin{s:Sy}(b:dE s){x how:Int}(H:x∈s.ps.map (·.1))(B:1<=how)(C:how<=4):dE (s.fin x how):=by
 have k:=b.nodup;obtain⟨n,o,p,L,q,h⟩:=Ii [x] s how B C (by simp) (by simpa using H) b.ev k;have j:(mE s.bonds x (how==1)).Nodup/\x∉mE s.bonds x (how==1)/\∀a∈mE s.bonds x (how==1),a∈s.ps.map (·.1):=by
  unfold mE;split
  ·simp
  ·exact⟨(mT b.ok x).nodup,(mT b.ok x).self,Dv b.ok b.bd⟩
 have E:s.fin x how=(mE s.bonds x (how==1)).foldl (λs a=>s.drop a 4) {s.drop x how with bonds:=wo s.bonds (x::mE s.bonds x (how==1))}:=rfl;rw[E];generalize mE s.bonds x (how==1)=d at j;obtain⟨y,z,A⟩:=j;have D:((s.drop x how).ps.map (·.1)).Nodup:=by
  show ((s.ps.eraseP λI=>I.1==x).map (·.1)).Nodup;rw[uz];exact k.erase _
 have F:∀a,a∈d->a∉ [x]:=λa c m=>z (by rw[cZ]at m;rw[<-m];exact c);obtain⟨r,t,u,i,w,v⟩:=Ii d {s.drop x how with bonds:=wo s.bonds (x::d)} 4 (by omega) (by omega) y (λa c=>(h a).2 ⟨A a c,F a c⟩) (o▸n) D;refine⟨t▸r,av u (av p b.len),i▸b.ok.wo _,λf K l=>?_,λe G=>b.nms e (q e (w e G))⟩;rw[i]at l;obtain⟨J,g,M⟩:=JZ.1 l;simp only[b8,not_or]at g;exact(v f).2 ⟨(h f).2 ⟨b.bd f K J,by simp only[cZ];exact g.1⟩,g.2⟩
theorem dE.deliver{s:Sy}(c:dE s)(room a b:Int)(t:Tc):dE (s.deliver room a b t):=by
 unfold Sy.deliver;split
 ·exact c
 ·rename_i h f e d;have g:b∈s.ps.map (·.1):=xV.1 (by rw[d];rfl);split
  ·exact c.tell (ae rfl)
  ·split
   ·exact c.fin g (by omega) (by omega)
   ·split
    ·exact(c.put _ (v:=(h,f,e++ [t])) (t8 c d:)).1
    ·exact c
theorem dE.send{s:Sy}(c:dE s){a:Int}(d:a∈s.ps.map (·.1))(b:Int)(t:Tc):dE (s.send a b t)/\(s.send a b t).ps=s.ps:=by
 unfold Sy.send;split
 ·exact⟨(c.ways _).tell (af ⟨af rfl,d⟩),rfl⟩
 ·exact⟨c.tell (ae rfl),rfl⟩
theorem dE.link{s:Sy}(c:dE s){a:Int}(h:a∈s.ps.map (·.1))(b:Int):dE (s.link a b)/\(s.link a b).ps=s.ps:=by
 unfold Sy.link;split
 ·rename_i i;refine⟨?_,rfl⟩;by_cases d:rH a b=0
  ·rw[if_pos d];have e:(1<=a/\a<=99)/\(1<=b/\b<=99)/\a≠b:=by
    unfold rH at d;split at d
    ·rename_i j;simpa [mL]using j
    ·cases d
   refine⟨c.ev,c.len,c.ok.link e.1 e.2.1 e.2.2,λk l f=>?_,c.nms⟩;simp only[gG]at f;split at f
   ·rename_i g;rcases Es.1 g with⟨rfl,rfl⟩|⟨rfl,rfl⟩
    ·exact h
    ·exact xV.1 i
   ·exact c.bd k l f
  ·rw[if_neg d];exact⟨c.ev,c.len,c.ok,c.bd,c.nms⟩
 ·exact⟨c,rfl⟩
theorem DO(a:Int):(l:List (Int×ByteArray×Tc))->∀{s:Sy},dE s->s.ps.length+l.length<=12->(∀x∈l,x.2.1.size<=8)->a∈s.ps.map (·.1)->dE (l.foldl (λs x=>s.add a x.2.1 x.2.2) s)/\a∈(l.foldl (λs x=>s.add a x.2.1 x.2.2) s).ps.map (·.1)
 | [],_,h,_,_,ha=>⟨h,ha⟩
 | x::l,s,h,hl,hn,ha=>by
  simp only[aV]at hl;refine DO a l (h.add (by omega) a (hn x (by simp)) _) ?_ (λy b=>hn y (bE _ b)) ?_
  ·simp[Sy.add,Sy.tell];omega
  ·simp only[Sy.add,Sy.tell,fF];exact mj _ ha
theorem xU{b:Type}(a:Int)(f:Sy->b->Sy)(c:∀(s:Sy)(x:b),dE s->a∈s.ps.map (·.1)->dE (f s x)/\(f s x).ps=s.ps):(l:List b)->∀{s:Sy},dE s->a∈s.ps.map (·.1)->dE (l.foldl f s)/\a∈(l.foldl f s).ps.map (·.1)
 | [],_,h,ha=>⟨h,ha⟩
 | x::l,s,h,ha=>by
  obtain⟨d,e⟩:=c s x h ha;exact xU a f c l d (by rw[e];exact ha)
theorem dE.follow{s:Sy}(c:dE s){a:Int}(d:a∈s.ps.map (·.1))(b:Tk)(k:s.ps.length+b.spawns.length<=12)(l:∀x∈b.spawns,x.2.1.size<=8):dE (s.follow a b):=by
 obtain⟨i,f⟩:=DO a b.spawns c k l d;obtain⟨j,g⟩:=xU a (λ(s:Sy)(x:Int×Tc)=>s.send a x.1 x.2) (λs x c d=>c.send d _ _) b.sends i f;obtain⟨e,h⟩:=xU a (λ(s:Sy)(x:Int)=>s.link a x) (λs x c d=>c.link d _) b.links j g;unfold Sy.follow;simp only;split
 ·exact e.fin h (by omega) (by omega)
 ·exact e
theorem wk{k:Nat}{x:Tm k}{room:Int}{nm:ByteArray}(a:fP k x room nm=0):nm.size<=8:=by
 unfold fP at a;split at a
 ·cases a
 ·rename_i b;simp only[dC,pZ,Bool.not_eq_false,ax,bQ]at b;omega
theorem dE.do{n:Nat}{prog:List (Bh (n+1))}{room:Int}{s:Sy}(c:dE s)(r a b:Int)(k:Nat)(x:Tm k):dE (s.do n prog room r a b k x).1:=by
 unfold Sy.do;split
 ·unfold Sy.run;split
  ·exact c
  ·rename_i e w u j;have i:a∈s.ps.map (·.1):=xV.1 (by rw[j];rfl);split
   ·split
    ·exact c
    ·rename_i d _;obtain⟨p,h⟩:=c.put a (v:=(e,d.state,d.mail)) (t8 c j:);have f:dE ((s.put a (e,d.state,d.mail)).tell eY a 0 d.message):=p.tell (af ⟨ae rfl,by rw[h];exact i⟩);have o:((s.put a (e,d.state,d.mail)).tell eY a 0 d.message).ps.map (·.1)=s.ps.map (·.1):=h;have g:a∈((s.put a (e,d.state,d.mail)).tell eY a 0 d.message).ps.map (·.1):=by rw[o];exact i
     simp only;split
     ·exact f.fin g (by omega) (by omega)
     ·split
      ·exact f.fin g (by omega) (by omega)
      ·rename_i m;simp only[Sy.made,Sy.may,ax,bQ,Bool.not_eq_false,bX,cd]at m;exact f.follow g d (by omega) λx q=>wk (m.2 x q).2
   ·exact c
 ·split
  ·unfold Sy.arrive;split
   ·exact c
   ·rename_i t l _;simp only;split
    ·exact(c.ways _).deliver _ _ _ _
    ·exact(c.ways _).tell (ae rfl)
  ·split
   ·unfold Sy.inject;split
    ·exact c
    ·split
     ·exact c
     ·split
      ·exact c
      ·exact c.deliver _ _ _ _
   ·exact c
theorem dE.start{n:Nat}{prog:List (Bh (n+1))}{room:Int}{s:Sy}(a:dE s)(nm:ByteArray)(k:Nat)(x:Tm k):dE (s.start n prog room nm k x).1:=by
 unfold Sy.start;split
 ·exact a
 ·rename_i b;split
  ·exact a
  ·split
   ·exact a
   ·rename_i c;simp only[Sy.may,Bool.not_eq_false,ax,bQ]at b;exact a.add (by omega) _ (wk (Decidable.not_not.1 c)) _
theorem rF{n d:Nat}{p:List (Tm n)}{q:List (Tm d)}(c:az (λa b=>au n a d b) p q=true)(s:ByteArray)(k:Nat):tf n p s k=tf d q s k:=by
 unfold tf;rw[cv _ _ _ c];cases p with
 | nil=>
  cases q with
  | nil=>rfl
  | cons b q=>simp[az]at c
 | cons a p=>
  cases q with
  | nil=>simp[az]at c
  | cons b q=>
   simp only[az,ax]at c;have e:(fX n a).1=(fX d b).1:=by
    cases n with
    | zero=>exact absurd c.1 (by simp[au])
    | succ n=>
     cases d with
     | zero=>exact absurd c.1 (by simp[au])
     | succ d=>exact(bz c.1).1
   simp only[cH,(kB _ _ _ _ c.1).1,e]
theorem qm{n e:Nat}{p:List (Tm n)}{q:List (Tm e)}(f:az (λa b=>au n a e b) p q=true)(i:Nat):(p[i]?=none/\q[i]?=none)\/∃a b,p[i]?=some a/\q[i]?=some b/\au n a e b=true/\a∈p/\b∈q:=by
 have h:=cv _ _ _ f;by_cases g:i<p.length
 ·have c:=aD g;have d:=aD (show i<q.length by omega);exact af ⟨_,_,c,d,ja _ _ _ f _ _ _ c d,aC c,aC d⟩
 ·exact ae ⟨ee (by omega),ee (by omega)⟩
theorem zq{n i N M:Nat}(f:Tm n->Option (Tm N))(g:Tm i->Option (Tm M)):(p:List (Tm n))->(q:List (Tm i))->az (λa b=>au n a i b) p q=true->(∀a∈p,∀b∈q,au n a i b=true->fh N M (f a) (g b))->fh (N+1) (M+1) ((cw f p).map (cT N)) ((cw g q).map (cT M))/\((cw f p=none/\cw g q=none)\/∃l r,cw f p=some l/\cw g q=some r/\az (λa b=>au N a M b) l r=true)
 | [],[],_,_=>⟨by simp[cw,fh,au,cT,az],af ⟨[],[],rfl,rfl,rfl⟩⟩
 | [],_::_,h,_=>by simp[az]at h
 | _::_,[],h,_=>by simp[az]at h
 | a::p,b::q,d,h=>by
  simp only[az,ax]at d;have c:=h a (by simp) b (by simp) d.1;have s:=(zq f g p q d.2 λx t y u=>h x (by simp[t]) y (by simp[u])).2;simp only[cw];cases e1:f a with
  | none=>
   rw[e1]at c;cases e:g b with
   | none=>simp[fh]
   | some _=>rw[e]at c;exact c.elim
  | some o=>
   rw[e1]at c;cases e:g b with
   | none=>rw[e]at c;exact c.elim
   | some v=>
    rw[e]at c;have d:au N o M v=true:=c;rcases s with⟨j,k⟩|⟨l,r,j,k,m⟩
    ·rw[j,k];simp[fh]
    ·rw[j,k];exact⟨by simp[fh,au,cT,az,d,m],af ⟨o::l,v::r,rfl,rfl,by simp[az,d,m]⟩⟩
theorem yX(m:Nat)(b:List (Tm m))(i:Nat)(k:List (Tm i))(self:Int)(u:az (λx y=>au m x i y) b k=true)(z:∀y∈b,aw ⟨m,y⟩)(A:∀y∈k,aw ⟨i,y⟩):(n:Nat)->(x:Tm n)->(d:Nat)->(x':Tm d)->aw ⟨n,x⟩->aw ⟨d,x'⟩->au n x d x'=true->fh (m+n) (i+d) (vl m b self n x) (vl i k self d x')
 | 0,_,_,_,_,_,h=>by simp[au]at h
 | _+1,_,0,_,_,_,h=>by simp[au]at h
 | n+1,x,d+1,x',hx,hx',h=>by
  obtain⟨H,j⟩:=bz h;unfold vl;rw[<-H];by_cases s:x.1.1=5
  ·rw[if_pos s,if_pos s];rcases qm u x.1.2.1.toNat with⟨e,f⟩|⟨y,F,e,f,C,p,q⟩
   ·rw[e,f];trivial
   ·rw[e,f];simp only[dd];rw[<-(kB _ _ _ _ C).1];by_cases g:bK ⟨m,y⟩=6
    ·rw[if_pos g,if_pos g];trivial
    ·rw[if_neg g,if_neg g];exact iv (by omega) (by omega) (z y p) (A _ q) C
  ·rw[if_neg s,if_neg s];by_cases g:x.1.1=6
   ·rw[if_pos g,if_pos g];trivial
   ·rw[if_neg g,if_neg g];by_cases r:x.1.1=4
    ·rw[if_pos r,if_pos r,<-rF j,<-rF j,<-rF j];by_cases B:tf n x.2.2 pf 0=true
     ·rw[if_pos B,if_pos B];simp[fh,au,bG,az]
     ·rw[if_neg B,if_neg B];by_cases t:tf n x.2.2 vh 2=true
      ·rw[if_pos t,if_pos t];rcases qm j 1 with⟨e,f⟩|⟨a,o,e,f,l,p,q⟩
       ·rw[e,f];trivial
       ·rcases qm j 2 with⟨D,E⟩|⟨c,G,D,E,K,M,N⟩
        ·rw[e,f,D,E];trivial
        ·rw[e,f,D,E];simp only[dd];exact mQ (yX m b i k self u z A n a d o (aN n x a hx p) (aN d x' o hx' q) l) λO v I=>mQ (yX m b i k self u z A n c d G (aN n x c hx M) (aN d x' G hx' N) K) λP Q J=>wX I J
      ·rw[if_neg t,if_neg t];by_cases w:tf n x.2.2 BF 1=true
       ·rw[if_pos w,if_pos w];rcases qm j 1 with⟨e,f⟩|⟨a,o,e,f,l,p,q⟩
        ·rw[e,f];trivial
        ·rw[e,f];simp only[dd,cq _ _ _ _ l];cases aF d o
         ·simp[fh]
         ·exact iv (by omega) (by omega) (aN n x a hx p) (aN d x' o hx' q) l
       ·rw[if_neg w,if_neg w];exact(zq _ _ x.2.2 x'.2.2 j λy C F L l=>yX m b i k self u z A n y d F (aN n x y hx C) (aN d x' F hx' L) l).1
    ·rw[if_neg r,if_neg r];exact iv (by omega) (by omega) hx hx' h
theorem EE{B:List Tc}(c:∀y∈B,aw ⟨13,y⟩)(self:Int){n a:Nat}{x:Tm n}{x':Tm a}(g:aw ⟨n,x⟩)(h:aw ⟨a,x'⟩)(e:au n x a x'=true):ri B self n x=ri B self a x':=by
 have f:az (λx y=>au 13 x 13 y) B B=true:=iA _ _ λy i=>eW 13 y (c y i);have k:=yX 13 B 13 B self f c c n x a x' g h e;unfold ri;cases e1:vl 13 B self n x with
 | none=>
  rw[e1]at k;cases b:vl 13 B self a x' with
  | none=>rfl
  | some _=>rw[b]at k;exact k.elim
 | some j=>
  rw[e1]at k;cases b:vl 13 B self a x' with
  | none=>rw[b]at k;exact k.elim
  | some l=>
   rw[b]at k;have d:au (13+n) j (13+a) l=true:=k;simp only[dd];rw[bI d,gR d]
def N3(k:Nat)(d:Dg):Prop:=(∀y∈d.b,aw ⟨13,y⟩)/\1<=d.next/\d.next+k<=100
theorem sE{n:Nat}(a:Ac (n+1)):(a.1=1/\(bU n a).2.2=[aU lY n,a.2.1.1,a.2.1.2])\/(a.1=2/\(bU n a).2.2=[aU iF n,aU a.2.2.1 n,a.2.1.2,bG 5 a.2.2.2 n])\/(a.1=3/\(bU n a).2.2=[aU lX n,a.2.1.1])\/((a.1≠1/\a.1≠2/\a.1≠3)/\(bU n a).2.2=[aU lf n]):=by
 unfold bU;by_cases b:a.1=1
 ·exact ae ⟨b,by rw[if_pos b];rfl⟩
 ·by_cases c:a.1=2
  ·exact af (ae ⟨c,by rw[if_neg b,if_pos c];rfl⟩)
  ·by_cases d:a.1=3
   ·exact af (af (ae ⟨d,by rw[if_neg b,if_neg c,if_pos d];rfl⟩))
   ·exact af (af (af ⟨⟨b,c,d⟩,by rw[if_neg b,if_neg c,if_neg d];rfl⟩))
theorem F9{a:Int}(d:1<=a/\a<=99):aw ⟨13,CZ a⟩:=by
 intro c b;have b:c∈[(((3,a,.empty),(none,0,0)):Nd)]:=b;obtain rfl:=cZ.1 b;simp[co,pZ,d]
theorem Ie{n m:Nat}{a:Ac (n+1)}{b:Ac (m+1)}(c:au (n+2) (bU n a) (m+2) (bU m b)=true)(w:aw ⟨n+2,bU n a⟩)(y:aw ⟨m+2,bU m b⟩)(self:Int){k:Nat}{d:Dg}(z:N3 (k+1) d):qv self a d=qv self b d/\∀h,qv self a d=some h->N3 k h:=by
 obtain⟨_,e⟩:=bz c;have F:=λl j=>aN (n+1) (bU n a) l w j;have G:=λl j=>aN (m+1) (bU m b) l y j;have v:=cv _ _ _ e;obtain⟨d1,q,I⟩:=z;have i:∀{x:Tm (n+1)}{x':Tm (m+1)},x∈(bU n a).2.2->x'∈(bU m b).2.2->au (n+1) x (m+1) x'=true->ri d.b self (n+1) x=ri d.b self (m+1) x':=λA B C=>EE d1 self (F _ A) (G _ B) C;rcases sE a with⟨f,o⟩|⟨f,o⟩|⟨f,o⟩|⟨f,o⟩<;>rcases sE b with⟨g,p⟩|⟨g,p⟩|⟨g,p⟩|⟨g,p⟩<;>rw[o,p]at v e i
 case inl.inl=>
  simp only[az,ax,and_true]at e;have r:=i (x:=a.2.1.1) (x':=b.2.1.1) (by simp) (by simp) e.2.1;have s:=i (x:=a.2.1.2) (x':=b.2.1.2) (by simp) (by simp) e.2.2;unfold qv;rw[if_pos f,if_pos g,s];unfold mN;rw[r];refine⟨rfl,λh c=>?_⟩;obtain⟨H,_,c⟩:=bj.1 c;obtain⟨t,_,rfl⟩:=bY.1 c;exact⟨d1,q,by simp only;omega⟩
 case inr.inl.inr.inl=>
  simp only[az,ax,and_true]at e;have s:=i (x:=a.2.1.2) (x':=b.2.1.2) (by simp) (by simp) e.2.2.1;have D:a.2.2.1=b.2.2.1:=by
   have:=(bz e.2.1).1;simpa [aU]using this
  have E:a.2.2.2=b.2.2.2:=by
   have:=(bz e.2.2.2).1;simpa [bG]using this
  unfold qv;rw[if_neg (show¬a.1=1 by omega),if_neg (show¬b.1=1 by omega),if_pos f,if_pos g,s,D,E];refine⟨rfl,λh c=>?_⟩;obtain⟨t,_,c⟩:=bj.1 c;split at c
  ·obtain rfl:=ap c;refine⟨λl j=>?_,by simp only;omega,by simp only;omega⟩;rcases r7 j with u|u
   ·exact d1 l u
   ·rw[u];exact F9 (by omega)
  ·cases c
 case inr.inr.inl.inr.inr.inl=>
  simp only[az,ax,and_true]at e;have r:=i (x:=a.2.1.1) (x':=b.2.1.1) (by simp) (by simp) e.2;unfold qv;rw[if_neg (show¬a.1=1 by omega),if_neg (show¬b.1=1 by omega),if_neg (show¬a.1=2 by omega),if_neg (show¬b.1=2 by omega),if_pos f,if_pos g];unfold mN;rw[r];refine⟨rfl,λh c=>?_⟩;obtain⟨H,_,rfl⟩:=bY.1 c;exact⟨d1,q,by simp only;omega⟩
 case inr.inr.inr.inr.inr.inr=>
  unfold qv;rw[if_neg f.1,if_neg g.1,if_neg f.2.1,if_neg g.2.1,if_neg f.2.2,if_neg g.2.2];refine⟨rfl,λh c=>?_⟩;obtain rfl:=ap c;exact⟨d1,q,by simp only;omega⟩
 all_goals exact absurd v (by simp)
theorem zV{n m:Nat}(self:Int):(l:List (Ac (n+1)))->(r:List (Ac (m+1)))->az (λx y=>au (n+2) x (m+2) y) (l.map (bU n)) (r.map (bU m))=true->(∀a∈l,aw ⟨n+2,bU n a⟩)->(∀b∈r,aw ⟨m+2,bU m b⟩)->∀{d:Dg},N3 l.length d->pA self l d=pA self r d/\∀f,pA self l d=some f->∀y∈f.b,aw ⟨13,y⟩
 | [],[],_,_,_,d,hd=>⟨rfl,λf c=>by obtain rfl:=ap c;exact hd.1⟩
 | [],_::_,c,_,_,_,_=>by simp[az]at c
 | _::_,[],c,_,_,_,_=>by simp[az]at c
 | a::l,b::r,c,ha,hb,d,hd=>by
  simp only[aG,az,ax]at c;obtain⟨h,i⟩:=Ie c.1 (ha a (by simp)) (hb b (by simp)) self hd;unfold pA;rw[<-h];cases e:qv self a d with
  | none=>exact⟨rfl,λ_ c=>by cases c⟩
  | some f=>exact zV self l r c.2 (λx g=>ha x (by simp[g])) (λx g=>hb x (by simp[g])) (i f e)
def Ni{n m:Nat}(c:Cl (n+1))(a:Cl (m+1)):Prop:=(au (n+1) c.1.1 (m+1) a.1.1=true/\au (n+1) c.1.2.1 (m+1) a.1.2.1=true/\au (n+1) c.1.2.2 (m+1) a.1.2.2=true)/\az (λx y=>au (n+2) x (m+2) y) (c.2.2.map (bU n)) (a.2.2.map (bU m))=true
theorem nN{n m:Nat}{x:Tm (n+1)}{y:Tm (m+1)}(b:bm (n+1) x=0)(c:bm (m+1) y=0)(a:au (n+3) (aK (n+3) (n+1) x) (m+3) (aK (m+3) (m+1) y)=true):au (n+1) x (m+1) y=true:=
 bM _ _ _ _ _ _ (dG _ _ _ _ (eV (n+3) (n+1) (by omega) x (aH.2 (br.1 b).1))) (bM _ _ _ _ _ _ a (eV (m+3) (m+1) (by omega) y (aH.2 (br.1 c).1)))
theorem Kz{n m:Nat}{c:Cl (n+1)}{a:Cl (m+1)}(f:au (n+4) (dr n c) (m+4) (dr m a)=true)(b:pj c)(d:pj a):Ni c a:=by
 obtain⟨_,e⟩:=bz f;simp only[dr,cT,az,ax,and_true]at e;obtain⟨_,g,h,i,j⟩:=e;exact⟨⟨nN b.1 d.1 g,nN b.2.1 d.2.1 h,nN b.2.2.1 d.2.2.1 j⟩,(bz i).2⟩
theorem Kp:mC.length=4/\∀y∈mC,BV y:=by
 refine⟨rfl,λy a=>?_⟩;simp only[mC,nj,b9]at a;obtain⟨c,b,rfl⟩:=a;rw[List.eq_of_mem_replicate b];exact⟨by kernel_rfl,ae rfl⟩
theorem Fh{n m:Nat}{c:Cl (n+1)}{e:Cl (m+1)}(f:Ni c e){s t:Tc}(j:bm 13 s=0/\aF 13 s=true)(k:bm 13 t=0/\aF 13 t=true):kM c s t=kM e s t/\∀b,kM c s t=some b->∀y∈b,aw ⟨13,y⟩:=by
 have r:au 13 s 13 s=true:=eW _ _ (aH.2 (br.1 j.1).1);have u:au 13 t 13 t=true:=eW _ _ (aH.2 (br.1 k.1).1);have a:=lJ _ c.1.1 13 s _ e.1.1 13 s mC mC f.1.1 r tF;unfold kM;cases e1:gM (n+1) c.1.1 13 s mC with
 | none=>
  rw[e1]at a;cases g:gM (m+1) e.1.1 13 s mC with
  | none=>exact⟨rfl,λ_ f=>by cases f⟩
  | some _=>rw[g]at a;exact a.elim
 | some b=>
  rw[e1]at a;cases g:gM (m+1) e.1.1 13 s mC with
  | none=>rw[g]at a;exact a.elim
  | some i=>
   rw[g]at a;have q:=ky BV nG _ c.1.1 13 s ⟨j.1,af j.2⟩ _ _ Kp e1;have d:=lJ _ c.1.2.1 13 t _ e.1.2.1 13 t b i f.1.2.1 u a;simp only[dd];cases e3:gM (n+1) c.1.2.1 13 t b with
   | none=>
    rw[e3]at d;cases h:gM (m+1) e.1.2.1 13 t i with
    | none=>exact⟨rfl,λ_ f=>by cases f⟩
    | some _=>rw[h]at d;exact d.elim
   | some x=>
    rw[e3]at d;cases h:gM (m+1) e.1.2.1 13 t i with
    | none=>rw[h]at d;exact d.elim
    | some z=>
     rw[h]at d;refine⟨by simp only[Option.map_some];rw[Hs d],λw l y o=>?_⟩;obtain rfl:=ap l;obtain⟨v,p,rfl⟩:=b9.1 o;exact aH.2 (br.1 (px ((ky BV nG _ c.1.2.1 13 t ⟨k.1,af k.2⟩ _ _ q e3).2 v p).1)).1
theorem rq{n m:Nat}(name:ByteArray):(l:List (Bh (n+1)))->(r:List (Bh (m+1)))->az (λx y=>au (n+5) x (m+5) y) (l.map (dB n)) (r.map (dB m))=true->(fT (n+1) name l=none/\fT (m+1) name r=none)\/∃b a,fT (n+1) name l=some b/\fT (m+1) name r=some a/\az (λx y=>au (n+4) x (m+4) y) (b.2.2.map (dr n)) (a.2.2.map (dr m))=true/\b∈l/\a∈r
 | [],[],_=>ae ⟨rfl,rfl⟩
 | [],_::_,h=>by simp[az]at h
 | _::_,[],h=>by simp[az]at h
 | b::l,a::r,h=>by
  simp only[aG,az,ax]at h;obtain⟨_,f⟩:=bz h.1;simp only[dB,cT,az,ax]at f;have e:b.1=a.1:=by
   have:=(bz f.2.1).1;simpa [aU]using this
  unfold fT;rw[e];by_cases d:a.1=name
  ·rw[if_pos d,if_pos d];exact af ⟨b,a,rfl,rfl,f.2.2,by simp,by simp⟩
  ·rw[if_neg d,if_neg d];rcases rq name l r h.2 with k|⟨c,g,i,j,o,p,q⟩
   ·exact ae k
   ·exact af ⟨c,g,i,j,o,by simp[p],by simp[q]⟩
theorem vS{n m:Nat}{s t:Tc}(o:bm 13 s=0/\aF 13 s=true)(p:bm 13 t=0/\aF 13 t=true):(l:List (Cl (n+1)))->(r:List (Cl (m+1)))->az (λx y=>au (n+4) x (m+4) y) (l.map (dr n)) (r.map (dr m))=true->(∀c∈l,pj c)->(∀c∈r,pj c)->(lF s t l=none/\lF s t r=none)\/∃c a b,lF s t l=some (c,b)/\lF s t r=some (a,b)/\Ni c a/\(c∈l/\a∈r)/\∀y∈b,aw ⟨13,y⟩
 | [],[],_,_,_=>ae ⟨rfl,rfl⟩
 | [],_::_,h,_,_=>by simp[az]at h
 | _::_,[],h,_,_=>by simp[az]at h
 | c::l,a::r,h,hl,hr=>by
  simp only[aG,az,ax]at h;have j:=Kz h.1 (hl c (by simp)) (hr a (by simp));obtain⟨g,i⟩:=Fh j o p;unfold lF;rw[<-g];cases e:kM c s t with
  | some b=>exact af ⟨c,a,b,rfl,rfl,j,⟨by simp,by simp⟩,i b e⟩
  | none=>
   rcases vS o p l r h.2 (λx f=>hl x (by simp[f])) (λx f=>hr x (by simp[f]))with k|⟨d,u,b,g,i,v,q,w⟩
   ·exact ae k
   ·exact af ⟨d,u,b,g,i,v,⟨by simp[q.1],by simp[q.2]⟩,w⟩
theorem tN{n m:Nat}{s:Tc}(k:bm 13 s=0/\aF 13 s=true){l:List (Cl (n+1))}{r:List (Cl (m+1))}(f:az (λx y=>au (n+4) x (m+4) y) (l.map (dr n)) (r.map (dr m))=true)(g:∀c∈l,pj c)(h:∀c∈r,pj c):(ms:List Tc)->(∀t∈ms,bm 13 t=0/\aF 13 t=true)->(i:Nat)->(rv l s ms i=none/\rv r s ms i=none)\/∃j c a b,rv l s ms i=some (j,c,b)/\rv r s ms i=some (j,a,b)/\Ni c a/\(c∈l/\a∈r)/\∀y∈b,aw ⟨13,y⟩
 | [],_,_=>ae ⟨rfl,rfl⟩
 | t::ms,ht,i=>by
  unfold rv;rcases vS k (ht t (by simp)) l r f g h with⟨d,e⟩|⟨c,a,b,d,e,p⟩
  ·rw[d,e];exact tN k f g h ms (λx o=>ht x (by simp[o])) (i+1)
  ·rw[d,e];exact af ⟨i,c,a,b,rfl,rfl,p⟩
theorem EK{n:Nat}{c:Cl (n+1)}(d:bm (n+3) (cT (n+2) (c.2.2.map (bU n)))=0):∀a∈c.2.2,aw ⟨n+2,bU n a⟩:=λa b=>aH.2 (br.1 (fp d (by simp only[cT];exact iM b))).1
theorem Fp{n m:Nat}{c:Cl (n+1)}{f:Cl (m+1)}(h:Ni c f)(g:pj c/\∀a∈c.2.2,aw ⟨n+2,bU n a⟩)(i:pj f/\∀a∈f.2.2,aw ⟨m+2,bU m a⟩)(room self next:Int)(k:1<=next/\next<=92)(s t:Tc)(ms:List Tc){b:List Tc}(j:∀y∈b,aw ⟨13,y⟩):eK room self next s t ms c b=eK room self next s t ms f b:=by
 have p:=g.1.2.2.2.1;obtain⟨l,o⟩:=zV self c.2.2 f.2.2 h.2 g.2 i.2 (d:=⟨b,next,[],[],[],false⟩) ⟨j,k.1,by simp only;omega⟩;unfold eK;rw[<-l];cases e:pA self c.2.2 ⟨b,next,[],[],[],false⟩with
 | none=>rfl
 | some d=>
  have:=EE (o d e) self (aH.2 (br.1 g.1.2.2.1).1) (aH.2 (br.1 i.1.2.2.1).1) h.1.2.2;simp only[this]
theorem wH{n:Nat}{p:List (Bh (n+1))}(d:nn n p=0):∀b∈p,∀c∈b.2.2,pj c/\∀a∈c.2.2,aw ⟨n+2,bU n a⟩:=λb e c f=>by
 have g:=(fA d).2.1;have h:bm (n+5) (dB n b)=0:=fp g (by simp only[bS,cT];exact bE _ (iM e));have i:bm (n+4) (dr n c)=0:=fp h (by simp only[dB,cT];exact bE _ (bE _ (iM f)));exact⟨((Et d).2 b e).2 c f,EK (tL i 3 rfl)⟩
theorem uY{n m:Nat}{P:List (Bh (n+1))}{Q:List (Bh (m+1))}(b:au (n+6) (bS n P) (m+6) (bS m Q)=true):az (λx y=>au (n+5) x (m+5) y) (P.map (dB n)) (Q.map (dB m))=true:=by
 obtain⟨_,a⟩:=bz b;simp only[bS,cT,az,ax]at a;exact a.2
theorem uk{n m:Nat}{P:List (Bh (n+1))}{Q:List (Bh (m+1))}(d:au (n+6) (bS n P) (m+6) (bS m Q)=true)(nm:ByteArray):kF n P nm=kF m Q nm:=by
 unfold kF;rcases rq nm P Q (uY d)with⟨a,c⟩|⟨b,e,a,c,_⟩<;>rw[a,c]<;>rfl
theorem Gr{n m:Nat}{P:List (Bh (n+1))}{Q:List (Bh (m+1))}(y:au (n+6) (bS n P) (m+6) (bS m Q)=true)(z:nn n P=0)(A:nn m Q=0)(room:Int)(nm:ByteArray)(self next:Int)(B:1<=next/\next<=92){s:Tc}(w:bm 13 s=0/\aF 13 s=true){ms:List Tc}(v:∀t∈ms,bm 13 t=0/\aF 13 t=true):lW room P nm self next s ms=lW room Q nm self next s ms:=by
 have p:=wH z;have q:=wH A;have key:(rv (fW nm P) s ms 0=none/\rv (fW nm Q) s ms 0=none)\/∃f c a b,rv (fW nm P) s ms 0=some (f,c,b)/\rv (fW nm Q) s ms 0=some (f,a,b)/\Ni c a/\((pj c/\∀i∈c.2.2,aw ⟨n+2,bU n i⟩)/\pj a/\∀i∈a.2.2,aw ⟨m+2,bU m i⟩)/\∀H∈b,aw ⟨13,H⟩:=by
  unfold fW;rcases rq nm P Q (uY y)with⟨d,e⟩|⟨b,u,d,e,o,g,h⟩
  ·rw[d,e];rcases tN w (l:=([]:List (Cl (n+1)))) (r:=([]:List (Cl (m+1)))) rfl (by simp) (by simp) ms v 0 with k|⟨_,_,_,_,_,_,_,k,_⟩
   ·exact ae k
   ·cases k.1
  ·rw[d,e];rcases tN w o (λc j=>(p b g c j).1) (λc j=>(q u h c j).1) ms v 0 with k|⟨f,c,a,G,C,D,E,x,F⟩
   ·exact ae k
   ·exact af ⟨f,c,a,G,C,D,E,⟨p b g c x.1,q u h a x.2⟩,F⟩
 unfold lW;rcases key with⟨d,e⟩|⟨f,c,a,b,d,e,o,g,h⟩
 ·rw[d,e];rfl
 ·rw[d,e];simp only[dd];congr 1;funext t;exact Fp o g.1 g.2 room self next B s t _ h
theorem KJ{n m:Nat}{P:List (Bh (n+1))}{Q:List (Bh (m+1))}(d:au (n+6) (bS n P) (m+6) (bS m Q)=true)(f:nn n P=0)(g:nn m Q=0){s:Sy}(q:∀a nm cs c,s.get a=some (nm,cs,c)->(bm 13 cs=0/\aF 13 cs=true)/\∀t∈c,bm 13 t=0/\aF 13 t=true)(v:0<=s.last/\s.last<=90)(room i a b:Int)(k:Nat)(x:Tm k):s.do n P room i a b k x=s.do m Q room i a b k x:=by
 have p:kF n P=kF m Q:=funext λnm=>uk d nm;have r:s.run n P room a=s.run m Q room a:=by
  unfold Sy.run;cases e:s.get a with
  | none=>rfl
  | some u=>
   obtain⟨nm,cs,c⟩:=u;obtain⟨j,l⟩:=q a nm cs c e;have h:=Gr d f g room nm a (s.last+1) ⟨by omega,by omega⟩ j l;have o:qQ n room P nm a (s.last+1) cs c=qQ m room Q nm a (s.last+1) cs c:=by
    unfold qQ;rw[h,f,g]
   simp only[o,h,Sy.made,p];split
   ·cases lW room Q nm a (s.last+1) cs c<;>rfl
   ·rfl
 unfold Sy.do;rw[r]
theorem Dk{n m:Nat}{P:List (Bh (n+1))}{Q:List (Bh (m+1))}(a:au (n+6) (bS n P) (m+6) (bS m Q)=true)(s:Sy)(room:Int)(nm:ByteArray)(k:Nat)(x:Tm k):s.start n P room nm k x=s.start m Q room nm k x:=by
 unfold Sy.start;rw[uk a]
theorem Iz{n:Nat}{P:List (Bh (n+1))}{k d:Nat}{x:Tm k}{y:Tm d}(c:au k x d y=true)(s:Sy)(room a b:Int):s.do n P room 3 a b k x=s.do n P room 3 a b d y:=by
 unfold Sy.do Sy.inject;rw[bI c,cq _ _ _ _ c,gR c]
def pY:ByteArray:=⟨#[99,111,117,110,116]⟩
def Ov:ByteArray:=⟨#[117,112]⟩
def Ou:ByteArray:=⟨#[97,115,107]⟩
def NV:ByteArray:=⟨#[104,97,118,101]⟩
def sH:ByteArray:=⟨#[102,111,114,107]⟩
def BE:ByteArray:=⟨#[98,97,100]⟩
def wA:ByteArray:=⟨#[97]⟩
def Nk:Option Addr×Nat:=(none,0)
def Hw(N:Nat):Tm (N+1):=bG 6 0 N
def KE(a:Int)(N:Nat):Tm (N+1):=bG 1 a N
def Hz(a:Int)(N:Nat):Tm (N+1):=bG 5 a N
def eQ:List (Bh 2):=[(pY,Nk,[
 ((Hz 0 1,cT 1 [aU Ov 0,Hz 1 0],cT 1 [aU vh 0,Hz 0 0,Hz 1 0]),Nk,[]),
 ((Hz 0 1,cT 1 [aU Ou 0,Hz 1 0],Hz 0 1),Nk,[(1,(Hz 1 1,cT 1 [aU NV 0,Hz 0 0]),.empty,0)]),
 ((Hw 1,aU sH 1,KE 1 1),Nk,[(2,(zT 1,KE 0 1),pY,0),(3,(Hz 0 1,zT 1),.empty,0),(1,(Hz 0 1,cT 1 [aU Ov 0,KE 7 0]),.empty,0)]),
 ((Hw 1,aU lf 1,KE 0 1),Nk,[(4,(zT 1,zT 1),.empty,0)]),
 ((Hw 1,aU BE 1,cT 1 [aU vh 0,aU wA 0,aU wA 0]),Nk,[])])]
def uA:Tc:=cT 12 [aU Ov 11,KE 3 11]
def E5:Sy:=(Ke.start 1 eQ 60 pY 1 (KE 2 0)).1
theorem Ic:nn 1 eQ=0:=by kernel_rfl
theorem E6:(Ke.start 1 eQ 60 pY 1 (KE 2 0)).2=0/\E5.last=1:=⟨by kernel_rfl,by kernel_rfl⟩
def Kd:List (Int×Int×Int×Tc):=[(3,1,0,uA),(1,1,0,vk),(3,1,0,aU sH 12),(1,1,0,vk),(2,1,2,vk),(1,2,0,vk)]
def NH:List (Int×Int×Int×Tc):=[(3,1,0,aU BE 12),(1,1,0,vk)]
def Hx(s:Sy)(e:Int×Int×Int×Tc):Sy×Int:=s.do 1 eQ 60 e.1 e.2.1 e.2.2.1 13 e.2.2.2
def xO(s:Sy)(l:List (Int×Int×Int×Tc)):Sy:=l.foldl (λs e=>(Hx s e).1) s
def Cc:Sy->List (Int×Int×Int×Tc)->Bool
 | _,[]=>true
 | s,e::l=>(Hx s e).2==0 && Cc (Hx s e).1 l
theorem Ia:Cc E5 Kd=true:=by kernel_rfl
theorem KG:Cc (xO E5 Kd) NH=true:=by kernel_rfl
theorem MF:(xO E5 Kd).ps.map (·.1)=[1,2]:=by kernel_rfl
theorem Ib:((xO E5 Kd).get 2).map (λv=>(v.1,v.2.1.1))=some (pY,1,7,.empty):=by kernel_rfl
theorem KF:(xO (xO E5 Kd) NH).ps=[]:=by kernel_rfl
end Go.Proofs.YtckamaoibonjcaaGreat
