/- What is proved here: plain facts and contracts that the claimed theorem stands on. No condition but those that each names. -/
import Derived.Test.YtckamaoibonjcaaGreatG39
namespace Go.Proofs.YtckamaoibonjcaaGreat
open Go.RowKit
set_option maxRecDepth 100000
set_option maxHeartbeats 4000000
theorem Bq(g:Nat)(j:Option Nat)(a:Int)(w:World)(t:g<w.heap.size)(l:Hid (w.cell? ⟨g,3,none⟩=some (.map j)))(m:Hid (∀W,aj w W->(Instr.lookup 62 (.map j) (ab a) true).run Tryz.prog W=.ok (.tuple #[.pointer none,.bool false]) W)):am 7 #[aF g,ab a] w λe w'=>e=.returned (.tuple #[af ⟨#[]⟩,.agg #[ab 0,ab 0,af ⟨#[]⟩,ae none 0 0],ae none 0 0,ab 4])/\aj w w':=by
 go_enter Tryz.func7,Tryz.ntmps7;go_upto_region 1 with fail;generalize i:w.alloc _=c;have HB:Hid (aj w c):=by
  rw[<-i];exact(ap _ _).alloc (ak _) _
 have d:c.heap[w.heap.size]?=some (.cells #[ab 0,ab 0,af ⟨#[]⟩,ae none 0 0] 30):=by
  rw[<-i];exact aB _ _
 clear i;have B:=m.out _ HB.out;have u:c.cell? ⟨g,3,none⟩=some (.map j):=(HB.out.cell (p:=⟨g,3,none⟩) t).trans l.out;clear m l;have k:Hid (aj w (cJ c w.heap.size 0 (ab 0) (ab 0) (af ⟨#[]⟩) (ae none 0 0))):=(du (o:=0) (v0:=ab 0) (v1:=ab 0) (v2:=af ⟨#[]⟩) (v3:=ae none 0 0) HB.out (ak _));have f:=ao (rP d (ab 0) (ab 0) (af ⟨#[]⟩) (ae none 0 0));obtain⟨b,h⟩:∃b,b=w.heap.size:=⟨_,rfl⟩;rw[<-h]at d f k ⊢;have s:=ao h;clear h HB;have C:c.cell? ⟨b,0,none⟩=some (ab 0):=ag d 0;have D:c.cell? ⟨b,1,none⟩=some (ab 0):=ag d 1;have E:c.cell? ⟨b,2,none⟩=some (af ⟨#[]⟩):=ag d 2;have F:c.cell? ⟨b,3,none⟩=some (ae none 0 0):=ag d 3;have x:c.frozen? ⟨b,0,none⟩=false:=by simp[World.frozen?,d]
 have y:c.frozen? ⟨b,1,none⟩=false:=by simp[World.frozen?,d]
 have z:c.frozen? ⟨b,2,none⟩=false:=by simp[World.frozen?,d]
 have A:c.frozen? ⟨b,3,none⟩=false:=by simp[World.frozen?,d]
 clear d;go_wp2_with fail;have n:(cJ c b 0 (ab 0) (ab 0) (af ⟨#[]⟩) (ae none 0 0)).cell? ⟨b,0,none⟩=some (ab 0):=ag f.out 0;have d1:(cJ c b 0 (ab 0) (ab 0) (af ⟨#[]⟩) (ae none 0 0)).cell? ⟨b,1,none⟩=some (ab 0):=ag f.out 1;have q:(cJ c b 0 (ab 0) (ab 0) (af ⟨#[]⟩) (ae none 0 0)).cell? ⟨b,2,none⟩=some (af ⟨#[]⟩):=ag f.out 2;have r:(cJ c b 0 (ab 0) (ab 0) (af ⟨#[]⟩) (ae none 0 0)).cell? ⟨b,3,none⟩=some (ae none 0 0):=ag f.out 3;simp only[cJ,cT]at n d1 q r;exact av (v:=.tuple #[af ⟨#[]⟩,.agg #[ab 0,ab 0,af ⟨#[]⟩,ae none 0 0],ae none 0 0,ab 4]) (by simp[results,Tryz.results7,go_sem,n,d1,q,r]) rfl ⟨rfl,s.out▸k.out⟩
theorem bi.procN{p:lB}{s:Sy}{d:gu}{w:World}(c:bi p s d w){a:Int}(g:s.get a=none):am 7 #[aF p.b,ab a] w λe w'=>e=.returned (.tuple #[af ⟨#[]⟩,.agg #[ab 0,ab 0,af ⟨#[]⟩,ae none 0 0],ae none 0 0,ab 4])/\aj w w':=by
 refine Bq p.b d.po a w c.lo.2 c.cells.2.2.2 λi f=>?_;have h:cQ d.l a=none:=by
  have:=c.alive a;rw[g]at this;simpa using this
 have:=(c.later f).look a true;rw[if_pos rfl,h]at this;exact this
theorem B7(G:Option Addr)(I H:Nat)(room:Int)(sa:Option Addr)(sl sc:Nat)(nm t:Nat->ByteArray)(r s:Nat->Int)(xa:Nat->Option Addr)(u xc:Nat->Nat)(w:World)(x:Value->Int->World->Prop)(m:Nat->Nat->World->Prop)(R:Value->World->Prop)(Z:sl<=9223372036854775807)(E:Hid (am 17 #[ae G I H,ab room] w λe w'=>∃v b,e=.returned (.tuple #[v,ab b])/\Hid (x v b w')))(i:Hid (∀v b W,x v b W->(b≠0\/4<sl)->R (.pointer none) W))(p:Hid (∀v W,x v 0 W->sl<=4->∃a,v=aF a/\m a 0 W))(l:Hid (∀a j W,j<sl->m a j W->∃g o,(sa=some ⟨g,o,none⟩/\W.cell? ⟨g,o+j*5,none⟩=some (af (nm j))/\W.cell? ⟨g,o+j*5+1,none⟩=some (ab (r j))/\W.cell? ⟨g,o+j*5+2,none⟩=some (ab (s j))/\W.cell? ⟨g,o+j*5+3,none⟩=some (af (t j))/\W.cell? ⟨g,o+j*5+4,none⟩=some (ae (xa j) (u j) (xc j)))/\Hid (∀F,aj W F->am 19 #[aF a,af (nm j),.agg #[ab (r j),ab (s j),af (t j),ae (xa j) (u j) (xc j)]] F λe w'=>∃v b,e=.returned (.tuple #[ab v,ab b])/\Hid (m a (j+1) w'))))(h:Hid (∀a W,m a sl W->R (aF a) W)):am 6 #[ae G I H,ab room,ae sa sl sc] w λe w'=>∃v,e=.returned v/\Hid (R v w'):=by
 go_enter Tryz.func6,Tryz.ntmps6;go_wp2_with fail;refine E.out.mono ?_;rintro e an ⟨v,b,rfl,d⟩;clear E;by_cases z:b=0;rotate_left
 ·have k:=ao (i.out _ _ _ d.out (ah z));have aa:(b==0)=false:=by simpa using z
  clear i p l h d;go_wp2_with fail
  go_ret
  exact⟨_,rfl,k.out⟩
 subst z;by_cases Q:sl<=4;rotate_left
 ·have k:=ao (i.out _ _ _ d.out (ai (by omega)));have S:(4:Int)<(sl:Int):=by omega
  clear i p l h d;go_wp2_with fail
  go_ret
  exact⟨_,rfl,k.out⟩
 obtain⟨a,rfl,y⟩:=p.out _ _ d.out Q;have C:=ao y;have S:¬(4:Int)<(sl:Int):=by omega
 clear i p d y;go_wp2_with fail;go_loopw [10,26] (λ_ B wr=>∃(j:Nat),j<=sl/\B=ab j/\Hid (m a j wr)) (λ_ B _=>sl-(intOf B).toNat)
 case atStart=>exact⟨0,aE _,rfl,C.out⟩
 case round=>
 clear C;obtain⟨j,y,rfl,q⟩:=hrel;by_cases T:j<sl
 ·obtain⟨g,o,⟨rfl,L,M,N,O,P⟩,D⟩:=l.out a j _ T q.out;have ad:(0:Int)<=(j:Int):=by omega
  have al:(j:Int)<(sl:Int):=by omega
  clear l h q;go_upto_region 7 with fail;generalize A:World.alloc _ _=c;have f:c.heap[wr.heap.size]?=some (.cells #[af (nm j),ab (r j),ab (s j),af (t j),ae (xa j) (u j) (xc j)] 59):=by
   rw[<-A];exact aB _ _
  have K:=ao (D.out c (by rw[<-A];exact(ap _ _).alloc (ak _) _));generalize wr.heap.size=n at*;have U:c.cell? ⟨n,0,none⟩=some (af (nm j)):=ag f 0;have d1:c.cell? ⟨n,1,none⟩=some (ab (r j)):=ag f 1;have V:c.cell? ⟨n,2,none⟩=some (ab (s j)):=ag f 2;have X:c.cell? ⟨n,3,none⟩=some (af (t j)):=ag f 3;have Y:c.cell? ⟨n,4,none⟩=some (ae (xa j) (u j) (xc j)):=ag f 4;clear A f D L M N O P;go_wp2_with fail;refine K.out.mono ?_;rintro e aq ⟨v,b,rfl,J⟩;go_wp2_with fail;go_roundw
  case rel=>exact⟨j+1,by omega,by go_num,J.out⟩
  case measure=>simp[intOf];omega
 ·obtain rfl:j=sl:=by omega
  have k:=ao (h.out _ _ q.out);clear l h q;go_wp2_with fail
  go_ret
  exact⟨_,rfl,k.out⟩
def OB(a:Option Addr)(L:Nat)(b:Nat->Bool)(i:Value->World->Bool->Prop)(w:World):Prop:=∀j,j<L->∃g o nm c v d e f xa h xc,(a=some ⟨g,o,none⟩/\g<w.heap.size/\w.cell? ⟨g,o+j*7,none⟩=some (af nm)/\w.cell? ⟨g,o+j*7+1,none⟩=some (ab c)/\w.cell? ⟨g,o+j*7+2,none⟩=some (ab v)/\w.cell? ⟨g,o+j*7+3,none⟩=some (ab d)/\w.cell? ⟨g,o+j*7+4,none⟩=some (ab e)/\w.cell? ⟨g,o+j*7+5,none⟩=some (af f)/\w.cell? ⟨g,o+j*7+6,none⟩=some (ae xa h xc))/\Hid (∀W,aj w W->i (.agg #[af nm,ab c,ab v,ab d,ab e,af f,ae xa h xc]) W (b j))
theorem Au(a:Option Addr)(L c:Nat)(b:Nat->Bool)(w:World)(H:L<=1000000)(A:Hid (OB a L b (λv W t=>am 11 #[v] W λe w'=>e=.returned (.bool t)/\aj W w') w)):am 29 #[ae a L c,.func (Fn.func 11) #[] #[]] w λe w'=>∃r:Int,e=.returned (ab r)/\(0<=r ↔∃j,j<L/\b j=true)/\aj w w':=by
 go_enter Tryz.func29,Tryz.ntmps29;go_wp2_with fail;go_loopw [5,8] (λ_ i wr=>∃j:Nat,j<=L/\i=ab j/\Hid (aj w wr/\∀k,k<j->b k=false)) (λ_ i _=>L-(intOf i).toNat)
 case atStart=>exact⟨0,aE _,rfl,ap _ _,λk g=>absurd g (Nat.not_lt_zero k)⟩
 case round=>
  obtain⟨j,I,rfl,HB⟩:=hrel;by_cases z:j<L
  ·obtain⟨G,o,K,M,v,O,P,Q,R,T,S,⟨rfl,f,m,n,p,q,s,u,x⟩,B⟩:=A.out j z;have d:=aq HB.out.1;replace m:=(d _ _ f).trans m;replace n:=(d _ _ f).trans n;replace p:=(d _ _ f).trans p;replace q:=(d _ _ f).trans q;replace s:=(d _ _ f).trans s;replace u:=(d _ _ f).trans u;replace x:=(d _ _ f).trans x;clear d;have F:(0:Int)<=(j:Int):=by omega
   have J:(j:Int)<(L:Int):=by omega
   have D:=B.out _ HB.out.1;go_wp2_with fail;refine D.mono ?_;rintro e N ⟨rfl,C⟩;have l:=ao (HB.out.1.trans (C.mono HB.out.1.size));cases hbj:b j with
   | true=>
    go_wp2_with fail
    go_ret
    exact⟨_,rfl,⟨λ_=>⟨j,z,hbj⟩,λ_=>F⟩,l.out⟩
   | false=>
    go_wp2_with fail;go_roundw
    case rel=>exact⟨j+1,by omega,by go_num,l.out,λk g=>by rcases Nat.lt_succ_iff_lt_or_eq.1 g with h|h;exact HB.out.2 k h;exact h▸hbj⟩
    case measure=>simp[intOf];omega
  ·have E:j=L:=by omega
   subst E;go_wp2_with fail
   go_ret
   refine⟨_,rfl,⟨λh=>absurd h (by decide),λ⟨k,g,y⟩=>?_⟩,HB.out.1⟩;rw[HB.out.2 k g]at y;cases y
theorem vx(a:Option Addr)(L c:Nat)(b:Nat->Bool)(w:World)(h:L<=1000000)(f:Hid (OB a L b (λv W t=>am 11 #[v] W λe w'=>e=.returned (.bool t)/\aj W w') w)):am 9 #[ae a L c,.func (Fn.func 11) #[] #[]] w λe w'=>∃t:Bool,e=.returned (.bool t)/\(t=true ↔∃j,j<L/\b j=true)/\aj w w':=by
 go_enter Tryz.func9,Tryz.ntmps9;go_wp2_with fail;refine(Au a L c b w h f).mono ?_;rintro e l ⟨k,rfl,d,i⟩;have g:=ao d;clear d;go_wp2_with fail
 go_ret
 refine⟨decide (0<=k),?_,by rw[decide_eq_true_iff];exact g.out,i⟩;simp
theorem JO(a:Nat)(W:World):(binOp .eql 26 (aF a) (.pointer none)).run Tryz.prog W=.ok (.bool false) W:=by kernel_rfl
theorem LD(W:World):(binOp .eql 26 (.pointer none) (.pointer none)).run Tryz.prog W=.ok (.bool true) W:=by kernel_rfl
def Ol(c:Nat)(kd a b d f:Int)(g:ByteArray)(xa:Option Addr)(h xc:Nat)(P:World->Prop)(W:World):Prop:=am 8 #[aF c,.agg #[ab kd,ab a,ab b,ab d,ab f,af g,ae xa h xc]] W λe w'=>∃v,e=.returned (ab v)/\Hid (P w')
def OH(g:Nat)(i kd a b j k:Int)(l:ByteArray)(xa:Option Addr)(m xc:Nat)(P:World->Prop)(W:World):Prop:=am 7 #[aF g,ab i] W λe w'=>∃nm y0 y1 y2 ya yl yc ma d h f,e=.returned (.tuple #[af nm,.agg #[ab y0,ab y1,af y2,ae ya yl yc],ae ma d h,ab f])/\Hid (aj W w'/\∀c,aj w' c->(f=0->3<=d->P c)/\(¬(f=0/\3<=d)->Ol g kd a b j k l xa m xc P c))
theorem Gk(aI:Option Addr)(aK aJ:Nat)(sa:Option Addr)(sl sc:Nat)(aN:Option Addr)(h a1:Nat)(b n p y z:Nat->Int)(A:Nat->ByteArray)(B:Nat->Option Addr)(D C:Nat->Nat)(w:World)(u:Nat->Nat->World->Prop)(a5:h<=1048576)(s:Hid (am 5 #[] w λe w'=>e=.returned (.bool true)/\aj w w'))(HB:Hid (∀W,aj w W->am 6 #[ae aI aK aJ,ab 1000,ae sa sl sc] W λe w'=>(e=.returned (.pointer none)/\Hid (aj w w'))\/∃d,e=.returned (aF d)/\Hid (u d 0 w')))(K:Hid (∀d j W,u d j W->aj w W))(F:Hid (∀d j W,j<h->h<=60->u d j W->∃g o,(aN=some ⟨g,o,none⟩/\W.cell? ⟨g,o+j*7,none⟩=some (ab (b j))/\W.cell? ⟨g,o+j*7+1,none⟩=some (ab (n j))/\W.cell? ⟨g,o+j*7+2,none⟩=some (ab (p j))/\W.cell? ⟨g,o+j*7+3,none⟩=some (ab (y j))/\W.cell? ⟨g,o+j*7+4,none⟩=some (ab (z j))/\W.cell? ⟨g,o+j*7+5,none⟩=some (af (A j))/\W.cell? ⟨g,o+j*7+6,none⟩=some (ae (B j) (D j) (C j)))/\ Hid (∀O,aj W O->(b j≠2->b j≠3->Ol d (b j) (n j) (p j) (y j) (z j) (A j) (B j) (D j) (C j) (u d (j+1)) O)/\∀r,(b j=2/\r=p j)\/(b j=3/\r=n j)->OH d r (b j) (n j) (p j) (y j) (z j) (A j) (B j) (D j) (C j) (u d (j+1)) O)))(G:Hid (∀d W,h<=60->u d h W->am 10 #[aF d] W λe w'=>∃a L c,e=.returned (ae a L c)/\Hid (am 9 #[ae a L c,.func (Fn.func 11) #[] #[]] w' λe w2=>e=.returned (.bool false)/\aj w w2))):am 3 #[ae aI aK aJ,ae sa sl sc,ae aN h a1] w λe w'=>e=.returned (.bool true)/\aj w w':=by
 go_enter Tryz.func3,Tryz.ntmps3;go_wp2_with fail;refine s.out.mono ?_;rintro e bb ⟨rfl,Y⟩;have ad:=ao Y;clear s Y;go_wp2_with fail;refine(HB.out _ ad.out).mono ?_;clear HB ad;rintro e w2 (⟨rfl,N⟩|⟨d,rfl,I⟩)
 ·have aZ:=LD;clear F G K;go_wp2_with fail
  go_ret
  exact⟨rfl,N.out⟩
 have aZ:=JO d;by_cases aH:h<=60;rotate_left
 ·have aX:(60:Int)<(h:Int):=by omega
  have N:=ao (K.out _ _ _ I.out);clear F G I K;go_wp2_with fail
  go_ret
  exact⟨rfl,N.out⟩
 have aX:¬(60:Int)<(h:Int):=by omega
 clear K;go_wp2_with fail;go_loopw [9,10,11,12,13,14,29] (λ_ _ _ _ _ _ V wr=>∃(j:Nat),j<=h/\V=ab j/\Hid (u d j wr)) (λ_ _ _ _ _ _ V _=>h-(intOf V).toNat)
 case atStart=>exact⟨0,aE _,rfl,I.out⟩
 case round=>
 clear I;obtain⟨j,aY,rfl,s⟩:=hrel;by_cases aC:j<h;rotate_left
 ·obtain rfl:j=h:=by omega
  have an:=ao (G.out _ _ aH s.out);clear F G s aY aC;go_wp2_with fail;refine an.out.mono ?_;rintro e bc ⟨a,L,c,rfl,aa⟩;clear an;go_wp2_with fail;refine aa.out.mono ?_;rintro e bd ⟨rfl,ax⟩;have aO:=ao ax;clear aa ax;go_wp2_with fail
  go_ret
  exact⟨rfl,aO.out⟩
 obtain⟨g,o,⟨rfl,aP,aQ,aR,aS,aT,aU,aV⟩,al⟩:=F.out d j _ aC aH s.out;have a6:(0:Int)<=(j:Int):=by omega
 have a7:(j:Int)<(h:Int):=by omega
 clear F s G;go_upto_region 9 with fail;generalize U:World.alloc _ _=m;have H:m.heap[wr.heap.size]?=some (.cells #[ab (b j),ab (n j),ab (p j),ab (y j),ab (z j),af (A j),ae (B j) (D j) (C j)] 32):=by
  rw[<-U];exact aB _ _
 have J:=ao (al.out m (by rw[<-U];exact(ap _ _).alloc (ak _) _));generalize wr.heap.size=f at*;have M:m.cell? ⟨f,0,none⟩=some (ab (b j)):=ag H 0;have d1:m.cell? ⟨f,1,none⟩=some (ab (n j)):=ag H 1;have P:m.cell? ⟨f,2,none⟩=some (ab (p j)):=ag H 2;have t:=ao H;clear U H al aP aQ aR aS aT aU aV
 -- what is left of a round behind Proc
 by_cases l:b j=2\/b j=3
 ·obtain⟨r,aD⟩:∃r,(b j=2/\r=p j)\/(b j=3/\r=n j):=by
    rcases l with Q|Q
    ·exact⟨_,ah ⟨Q,rfl⟩⟩
    ·exact⟨_,ai ⟨Q,rfl⟩⟩
  have k:=ao (J.out.2 r aD);clear J l;rcases aD with⟨l,rfl⟩|⟨l,rfl⟩
  all_goals
   rw[l]at M;go_wp2_with fail;refine k.out.mono ?_;rintro e a0 ⟨ba,y0,y1,y2,ya,yl,yc,a8,X,a9,aL,rfl,Z⟩;clear k M d1 P;go_upto_region 14 with fail;generalize aG:World.alloc _ _=i;have R:aj a0 i:=by rw[<-aG];exact(ap _ _).alloc (ak _) _
   obtain⟨S,ay⟩:=Z.out;have x:=ao (ay i R);have q:=fu (S.trans (R.mono S.size)) t.out;have M:i.cell? ⟨f,0,none⟩=some (ab (b j)):=ag q 0;have d1:i.cell? ⟨f,1,none⟩=some (ab (n j)):=ag q 1;have P:i.cell? ⟨f,2,none⟩=some (ab (p j)):=ag q 2;have aq:i.cell? ⟨f,3,none⟩=some (ab (y j)):=ag q 3;have ar:i.cell? ⟨f,4,none⟩=some (ab (z j)):=ag q 4;have au:i.cell? ⟨f,5,none⟩=some (af (A j)):=ag q 5;have av:i.cell? ⟨f,6,none⟩=some (ae (B j) (D j) (C j)):=ag q 6;clear aG R Z S ay q t l;by_cases T:aL=0
   ·subst T;by_cases aw:3<=X
    ·have aW:(3:Int)<=(X:Int):=by omega
     have k:=ao (x.out.1 rfl aw);clear x M d1 P aq ar au av;go_wp2_with fail;go_roundw
     case rel=>exact⟨j+1,by omega,by go_num,k.out⟩
     case measure=>simp[intOf];omega
    ·have aW:¬(3:Int)<=(X:Int):=by omega
     have k:=ao (x.out.2 λv=>aw v.2);clear x;go_wp2_with fail;refine k.out.mono ?_;rintro e i ⟨aM,rfl,E⟩;go_wp2_with fail;go_roundw
     case rel=>exact⟨j+1,by omega,by go_num,E.out⟩
     case measure=>simp[intOf];omega
   ·have a4:(aL==0)=false:=by simpa using T
    have k:=ao (x.out.2 λv=>T v.1);clear x;go_wp2_with fail;refine k.out.mono ?_;rintro e i ⟨aM,rfl,E⟩;go_wp2_with fail;go_roundw
    case rel=>exact⟨j+1,by omega,by go_num,E.out⟩
    case measure=>simp[intOf];omega
 ·have az:¬b j=2:=λv=>l (ah v);have aA:¬b j=3:=λv=>l (ai v);have a2:(b j==2)=false:=by simpa using az
  have a3:(b j==3)=false:=by simpa using aA
  have k:=ao (J.out.1 az aA);have aq:m.cell? ⟨f,3,none⟩=some (ab (y j)):=ag t.out 3;have ar:m.cell? ⟨f,4,none⟩=some (ab (z j)):=ag t.out 4;have au:m.cell? ⟨f,5,none⟩=some (af (A j)):=ag t.out 5;have av:m.cell? ⟨f,6,none⟩=some (ae (B j) (D j) (C j)):=ag t.out 6;clear J l t;go_wp2_with fail;refine k.out.mono ?_;rintro e i ⟨aM,rfl,E⟩;go_wp2_with fail;go_roundw
  case rel=>exact⟨j+1,by omega,by go_num,E.out⟩
  case measure=>simp[intOf];omega
def xN(o:Option (Int×List Int))(e:ByteArray×Int×Int×Tc):Option (Int×List Int):=o.bind λp=>
 if e.1=iT then if e.2.2.1=p.1+1 then some (p.1+1,p.2++ [p.1+1])else none
 else if e.1=iq then if e.2.1∈p.2/\1<=e.2.2.1/\e.2.2.1<=4 then some (p.1,p.2.erase e.2.1)else none
 else if e.1=fi\/e.1=mJ then if e.2.1∈p.2 then some p else none
 else if e.1=fZ then some p else none
def tW(l:List (ByteArray×Int×Int×Tc)):Option (Int×List Int):=l.foldl xN (some (0,[]))
theorem od(l:List (ByteArray×Int×Int×Tc))(e:ByteArray×Int×Int×Tc):tW (l++ [e])=xN (tW l) e:=by simp[tW]
theorem E6{p q:Int×List Int}{e:ByteArray×Int×Int×Tc}(a:xN (some p) e=some q):(e.1=iT/\e.2.2.1=p.1+1/\q=(p.1+1,p.2++ [p.1+1]))\/(e.1=iq/\(e.2.1∈p.2/\1<=e.2.2.1/\e.2.2.1<=4)/\q=(p.1,p.2.erase e.2.1))\/((e.1=fi\/e.1=mJ)/\e.2.1∈p.2/\q=p)\/(e.1=fZ/\q=p):=by
 simp only[xN,dh]at a;split at a
 ·split at a
  ·exact ah ⟨‹_›,‹_›,(au a).symm⟩
  ·cases a
 ·split at a
  ·split at a
   ·exact ai (ah ⟨‹_›,‹_›,(au a).symm⟩)
   ·cases a
  ·split at a
   ·split at a
    ·exact ai (ai (ah ⟨‹_›,‹_›,(au a).symm⟩))
    ·cases a
   ·split at a
    ·exact ai (ai (ai ⟨‹_›,(au a).symm⟩))
    ·cases a
theorem DZ:(l:List (ByteArray×Int×Int×Tc))->∀{p:Int×List Int},tW l.reverse=some p->0<=p.1/\p.1<=l.length/\p.2.Nodup/\∀k∈p.2,1<=k/\k<=p.1
 | [],p,c=>by
  cases c;simp
 | e::l,p,c=>by
  rw[List.reverse_cons,od]at c;cases h:tW l.reverse with
  | none=>rw[h]at c;cases c
  | some q=>
   obtain⟨i,n,g,f⟩:=DZ l h;rw[h]at c;have o:(e::l).length=l.length+1:=rfl;rcases E6 c with⟨_,_,rfl⟩|⟨_,_,rfl⟩|⟨_,_,rfl⟩|⟨_,rfl⟩
   ·refine⟨by simp only;omega,by simp only;omega,eI.2 ⟨g,by simp,λa j b m e=>?_⟩,λk d=>?_⟩
    ·simp only[de]at m;have:=f a j;omega
    ·simp only[cR,de]at d ⊢;rcases d with d|rfl
     ·have:=f k d;omega
     ·omega
   ·exact⟨i,by simp only;omega,g.erase _,λk d=>f k (List.mem_of_mem_erase d)⟩
   all_goals exact⟨i,by omega,g,f⟩
structure dI (s:Sy):Prop where
 ev:tW s.evs=some (s.last,s.ps.map (·.1))
 len:s.ps.length<=12
 ok:vu s.bonds
 bd:∀x y,s.bonds (gR x y)=true->x∈s.ps.map (·.1)
 nms:∀q∈s.ps,q.2.1.size<=8
theorem dI.nodup{s:Sy}(a:dI s):(s.ps.map (·.1)).Nodup:=(DZ s.evs.reverse (by rw[List.reverse_reverse];exact a.ev)).2.2.1
theorem dI.zero:dI ⟨0,[],λ_=> [],λ_=>false,[]⟩:=⟨rfl,by decide,λ_ a=>(by cases a),λ_ _ a=>(by cases a),λ_ a=>(by cases a)⟩
theorem uD(x:Int)(l:List (Int×ByteArray×Tc×List Tc)):(l.eraseP λp=>p.1==x).map (·.1)=(l.map (·.1)).erase x:=by
 induction l with
 | nil=>rfl
 | cons p l ih=>
  rw[List.eraseP_cons,aK,List.erase_cons];cases h:p.1==x
  ·simp[ih]
  ·simp
theorem L7:iq≠iT/\fi≠iT/\fi≠iq/\mJ≠iT/\mJ≠iq/\fZ≠iT/\fZ≠iq/\fZ≠fi/\fZ≠mJ:=by decide
theorem dI.tell{s:Sy}(c:dI s){wt:ByteArray}{a b:Int}{t:Tc}(m:wt=fZ\/(wt=fi\/wt=mJ)/\a∈s.ps.map (·.1)):dI (s.tell wt a b t):=by
 refine⟨?_,c.len,c.ok,c.bd,c.nms⟩;obtain⟨n,e,f,g,h,i,j,k,l⟩:=L7;show tW (s.evs++ [(wt,a,b,t)])=_;rw[od,c.ev];rcases m with rfl|⟨rfl|rfl,d⟩
 ·simp[xN,i,j,k,l,Sy.tell]
 ·simp[xN,e,f,d,Sy.tell]
 ·simp[xN,g,h,d,Sy.tell]
theorem dI.add{s:Sy}(b:dI s)(j:s.ps.length+1<=12)(a:Int){nm:ByteArray}(d:nm.size<=8)(cs:Tc):dI (s.add a nm cs):=by
 refine⟨?_,by simp[Sy.add,Sy.tell];omega,b.ok,λh i f=>?_,λg e=>?_⟩
 ·show tW (s.evs++ [(iT,a,s.last+1,cs)])=_;rw[od,b.ev];simp[xN,Sy.add,Sy.tell]
 ·have:=b.bd h i f;simp only[Sy.add,Sy.tell,fJ];exact mr _ this
 ·rcases cR.1 e with c|c
  ·exact b.nms g c
  ·rw[de.1 c];exact d
theorem xY{s:Sy}{k:Int}:(s.get k).isSome=true ↔ k∈s.ps.map (·.1):=by
 simp[Sy.get]
theorem ud{s:Sy}(b:dI s){k:Int}{v:ByteArray×Tc×List Tc}(a:s.get k=some v):v.1.size<=8:=by
 unfold Sy.get at a;obtain⟨d,c,rfl⟩:=cd.1 a;exact b.nms d (sf c)
theorem dI.put{s:Sy}(a:dI s)(k:Int){v:ByteArray×Tc×List Tc}(f:v.1.size<=8):dI (s.put k v)/\(s.put k v).ps.map (·.1)=s.ps.map (·.1):=by
 have b:(s.put k v).ps.map (·.1)=s.ps.map (·.1):=by
  simp only[Sy.put,fK];refine jm λh _=>?_;simp only[Function.comp];split
  ·rename_i c;exact c.symm
  ·rfl
 refine⟨⟨by rw[b];exact a.ev,by simp[Sy.put];exact a.len,a.ok,by rw[b];exact a.bd,λi d=>?_⟩,b⟩;obtain⟨g,e,rfl⟩:=ci.1 d;split
 ·exact f
 ·exact a.nms g e
theorem dI.ways{s:Sy}(a:dI s)(f:Int×Int->List Tc):dI {s with ways:=f}:=⟨a.ev,a.len,a.ok,a.bd,a.nms⟩
theorem Il:(l:List Int)->(s:Sy)->∀how:Int,1<=how->how<=4->l.Nodup->(∀y∈l,y∈s.ps.map (·.1))->tW s.evs=some (s.last,s.ps.map (·.1))->(s.ps.map (·.1)).Nodup-> tW (l.foldl (λs y=>s.drop y how) s).evs=some (s.last,(l.foldl (λs y=>s.drop y how) s).ps.map (·.1))/\(l.foldl (λs y=>s.drop y how) s).last=s.last/\(l.foldl (λs y=>s.drop y how) s).ps.length<=s.ps.length/\(l.foldl (λs y=>s.drop y how) s).bonds=s.bonds/\(∀q∈(l.foldl (λs y=>s.drop y how) s).ps,q∈s.ps)/\∀x,x∈(l.foldl (λs y=>s.drop y how) s).ps.map (·.1) ↔ x∈s.ps.map (·.1)/\x∉l
 | [],s,_,_,_,_,_,he,_=>by simp[he]
 | y::l,s,how,h1,h4,hn,hm,he,hd=>by
  obtain⟨i,j⟩:=kp.1 hn;have e:(s.drop y how).ps.map (·.1)=(s.ps.map (·.1)).erase y:=uD y s.ps;have h:=hm y (by simp)
  obtain⟨k,m,n,o,r,p⟩:=Il l (s.drop y how) how h1 h4 j (λd f=>by
   rw[e]
   exact(List.mem_erase_of_ne λz2:d=y=>i (z2▸f)).2 (hm d (bI _ f))) (by
   show tW (s.evs++ [(iq,y,how,vp)])=_;rw[od,he,e];simp only[xN,dh,L7.1,if_false,cI];rw[if_pos ⟨h,h1,h4⟩]
   rfl) (by rw[e];exact hd.erase _)
  refine⟨k,m,ay n ?_,o,λq g=>List.mem_of_mem_eraseP (r q g),λx=>?_⟩
  ·show (s.ps.eraseP _).length<=_;exact List.length_eraseP_le
  ·rw[fH,p,e,List.Nodup.mem_erase_iff hd,ch];constructor
   ·rintro ⟨⟨a,b⟩,c⟩;exact⟨b,λd=>d.elim a c⟩
   ·rintro ⟨a,b⟩;exact⟨⟨λd=>b (ah d),a⟩,λd=>b (ai d)⟩
theorem Dy{g:Int×Int->Bool}(c:vu g){a:List Int}(b:∀x y,g (gR x y)=true->x∈a){x:Int}:∀y∈qY g x,y∈a:=by
 intro y f;obtain⟨h,d⟩:=cO f;obtain⟨k,_,e⟩:=(mX c x).from' h y d;exact b y k (by rw[Jg];exact(gY.1 e).2)
theorem dI.fin{s:Sy}(b:dI s){x how:Int}(H:x∈s.ps.map (·.1))(B:1<=how)(C:how<=4):dI (s.fin x how):=by
 have k:=b.nodup;obtain⟨n,o,p,L,q,h⟩:=Il [x] s how B C (by simp) (by simpa using H) b.ev k;have j:(mI s.bonds x (how==1)).Nodup/\x∉mI s.bonds x (how==1)/\∀a∈mI s.bonds x (how==1),a∈s.ps.map (·.1):=by
  unfold mI;split
  ·simp
  ·exact⟨(mX b.ok x).nodup,(mX b.ok x).self,Dy b.ok b.bd⟩
 have E:s.fin x how=(mI s.bonds x (how==1)).foldl (λs a=>s.drop a 4) {s.drop x how with bonds:=wo s.bonds (x::mI s.bonds x (how==1))}:=rfl;rw[E];generalize mI s.bonds x (how==1)=d at j;obtain⟨y,z,A⟩:=j;have D:((s.drop x how).ps.map (·.1)).Nodup:=by
  show ((s.ps.eraseP λI=>I.1==x).map (·.1)).Nodup;rw[uD];exact k.erase _
 have F:∀a,a∈d->a∉ [x]:=λa c m=>z (by rw[de]at m;rw[<-m];exact c);obtain⟨r,t,u,i,w,v⟩:=Il d {s.drop x how with bonds:=wo s.bonds (x::d)} 4 (by omega) (by omega) y (λa c=>(h a).2 ⟨A a c,F a c⟩) (o▸n) D;refine⟨t▸r,ay u (ay p b.len),i▸b.ok.wo _,λf K l=>?_,λe G=>b.nms e (q e (w e G))⟩;rw[i]at l;obtain⟨J,g,M⟩:=J5.1 l;simp only[ch,not_or]at g;exact(v f).2 ⟨(h f).2 ⟨b.bd f K J,by simp only[de];exact g.1⟩,g.2⟩
theorem dI.deliver{s:Sy}(c:dI s)(room a b:Int)(t:Tc):dI (s.deliver room a b t):=by
 unfold Sy.deliver;split
 ·exact c
 ·rename_i h f e d;have g:b∈s.ps.map (·.1):=xY.1 (by rw[d];rfl);split
  ·exact c.tell (ah rfl)
  ·split
   ·exact c.fin g (by omega) (by omega)
   ·split
    ·exact(c.put _ (v:=(h,f,e++ [t])) (ud c d:)).1
    ·exact c
theorem dI.send{s:Sy}(c:dI s){a:Int}(d:a∈s.ps.map (·.1))(b:Int)(t:Tc):dI (s.send a b t)/\(s.send a b t).ps=s.ps:=by
 unfold Sy.send;split
 ·exact⟨(c.ways _).tell (ai ⟨ai rfl,d⟩),rfl⟩
 ·exact⟨c.tell (ah rfl),rfl⟩
theorem dI.link{s:Sy}(c:dI s){a:Int}(h:a∈s.ps.map (·.1))(b:Int):dI (s.link a b)/\(s.link a b).ps=s.ps:=by
 unfold Sy.link;split
 ·rename_i i;refine⟨?_,rfl⟩;by_cases d:rL a b=0
  ·rw[if_pos d];have e:(1<=a/\a<=99)/\(1<=b/\b<=99)/\a≠b:=by
    unfold rL at d;split at d
    ·rename_i j;simpa [mQ]using j
    ·cases d
   refine⟨c.ev,c.len,c.ok.link e.1 e.2.1 e.2.2,λk l f=>?_,c.nms⟩;simp only[gK]at f;split at f
   ·rename_i g;rcases Ev.1 g with⟨rfl,rfl⟩|⟨rfl,rfl⟩
    ·exact h
    ·exact xY.1 i
   ·exact c.bd k l f
  ·rw[if_neg d];exact⟨c.ev,c.len,c.ok,c.bd,c.nms⟩
 ·exact⟨c,rfl⟩
theorem DR(a:Int):(l:List (Int×ByteArray×Tc))->∀{s:Sy},dI s->s.ps.length+l.length<=12->(∀x∈l,x.2.1.size<=8)->a∈s.ps.map (·.1)->dI (l.foldl (λs x=>s.add a x.2.1 x.2.2) s)/\a∈(l.foldl (λs x=>s.add a x.2.1 x.2.2) s).ps.map (·.1)
 | [],_,h,_,_,ha=>⟨h,ha⟩
 | x::l,s,h,hl,hn,ha=>by
  simp only[aZ]at hl;refine DR a l (h.add (by omega) a (hn x (by simp)) _) ?_ (λy b=>hn y (bI _ b)) ?_
  ·simp[Sy.add,Sy.tell];omega
  ·simp only[Sy.add,Sy.tell,fJ];exact mr _ ha
theorem xX{b:Type}(a:Int)(f:Sy->b->Sy)(c:∀(s:Sy)(x:b),dI s->a∈s.ps.map (·.1)->dI (f s x)/\(f s x).ps=s.ps):(l:List b)->∀{s:Sy},dI s->a∈s.ps.map (·.1)->dI (l.foldl f s)/\a∈(l.foldl f s).ps.map (·.1)
 | [],_,h,ha=>⟨h,ha⟩
 | x::l,s,h,ha=>by
  obtain⟨d,e⟩:=c s x h ha;exact xX a f c l d (by rw[e];exact ha)
theorem dI.follow{s:Sy}(c:dI s){a:Int}(d:a∈s.ps.map (·.1))(b:Tk)(k:s.ps.length+b.spawns.length<=12)(l:∀x∈b.spawns,x.2.1.size<=8):dI (s.follow a b):=by
 obtain⟨i,f⟩:=DR a b.spawns c k l d;obtain⟨j,g⟩:=xX a (λ(s:Sy)(x:Int×Tc)=>s.send a x.1 x.2) (λs x c d=>c.send d _ _) b.sends i f;obtain⟨e,h⟩:=xX a (λ(s:Sy)(x:Int)=>s.link a x) (λs x c d=>c.link d _) b.links j g;unfold Sy.follow;simp only;split
 ·exact e.fin h (by omega) (by omega)
 ·exact e
theorem ww{k:Nat}{x:Tm k}{room:Int}{nm:ByteArray}(a:fT k x room nm=0):nm.size<=8:=by
 unfold fT at a;split at a
 ·cases a
 ·rename_i b;simp only[dG,qd,Bool.not_eq_false,aA,bU]at b;omega
theorem dI.do{n:Nat}{prog:List (Bh (n+1))}{room:Int}{s:Sy}(c:dI s)(r a b:Int)(k:Nat)(x:Tm k):dI (s.do n prog room r a b k x).1:=by
 unfold Sy.do;split
 ·unfold Sy.run;split
  ·exact c
  ·rename_i e w u j;have i:a∈s.ps.map (·.1):=xY.1 (by rw[j];rfl);split
   ·split
    ·exact c
    ·rename_i d _;obtain⟨p,h⟩:=c.put a (v:=(e,d.state,d.mail)) (ud c j:);have f:dI ((s.put a (e,d.state,d.mail)).tell fi a 0 d.message):=p.tell (ai ⟨ah rfl,by rw[h];exact i⟩);have o:((s.put a (e,d.state,d.mail)).tell fi a 0 d.message).ps.map (·.1)=s.ps.map (·.1):=h;have g:a∈((s.put a (e,d.state,d.mail)).tell fi a 0 d.message).ps.map (·.1):=by rw[o];exact i
     simp only;split
     ·exact f.fin g (by omega) (by omega)
     ·split
      ·exact f.fin g (by omega) (by omega)
      ·rename_i m;simp only[Sy.made,Sy.may,aA,bU,Bool.not_eq_false,b9,cm]at m;exact f.follow g d (by omega) λx q=>ww (m.2 x q).2
   ·exact c
 ·split
  ·unfold Sy.arrive;split
   ·exact c
   ·rename_i t l _;simp only;split
    ·exact(c.ways _).deliver _ _ _ _
    ·exact(c.ways _).tell (ah rfl)
  ·split
   ·unfold Sy.inject;split
    ·exact c
    ·split
     ·exact c
     ·split
      ·exact c
      ·exact c.deliver _ _ _ _
   ·exact c
theorem dI.start{n:Nat}{prog:List (Bh (n+1))}{room:Int}{s:Sy}(a:dI s)(nm:ByteArray)(k:Nat)(x:Tm k):dI (s.start n prog room nm k x).1:=by
 unfold Sy.start;split
 ·exact a
 ·rename_i b;split
  ·exact a
  ·split
   ·exact a
   ·rename_i c;simp only[Sy.may,Bool.not_eq_false,aA,bU]at b;exact a.add (by omega) _ (ww (Decidable.not_not.1 c)) _
theorem rJ{n d:Nat}{p:List (Tm n)}{q:List (Tm d)}(c:aC (λa b=>ax n a d b) p q=true)(s:ByteArray)(k:Nat):tj n p s k=tj d q s k:=by
 unfold tj;rw[cD _ _ _ c];cases p with
 | nil=>
  cases q with
  | nil=>rfl
  | cons b q=>simp[aC]at c
 | cons a p=>
  cases q with
  | nil=>simp[aC]at c
  | cons b q=>
   simp only[aC,aA]at c;have e:(gd n a).1=(gd d b).1:=by
    cases n with
    | zero=>exact absurd c.1 (by simp[ax])
    | succ n=>
     cases d with
     | zero=>exact absurd c.1 (by simp[ax])
     | succ d=>exact(bD c.1).1
   simp only[cN,(kF _ _ _ _ c.1).1,e]
theorem qr{n e:Nat}{p:List (Tm n)}{q:List (Tm e)}(f:aC (λa b=>ax n a e b) p q=true)(i:Nat):(p[i]?=none/\q[i]?=none)\/∃a b,p[i]?=some a/\q[i]?=some b/\ax n a e b=true/\a∈p/\b∈q:=by
 have h:=cD _ _ _ f;by_cases g:i<p.length
 ·have c:=aH g;have d:=aH (show i<q.length by omega);exact ai ⟨_,_,c,d,je _ _ _ f _ _ _ c d,aG c,aG d⟩
 ·exact ah ⟨ek (by omega),ek (by omega)⟩
theorem zu{n i N M:Nat}(f:Tm n->Option (Tm N))(g:Tm i->Option (Tm M)):(p:List (Tm n))->(q:List (Tm i))->aC (λa b=>ax n a i b) p q=true->(∀a∈p,∀b∈q,ax n a i b=true->fl N M (f a) (g b))->fl (N+1) (M+1) ((cE f p).map (cX N)) ((cE g q).map (cX M))/\((cE f p=none/\cE g q=none)\/∃l r,cE f p=some l/\cE g q=some r/\aC (λa b=>ax N a M b) l r=true)
 | [],[],_,_=>⟨by simp[cE,fl,ax,cX,aC],ai ⟨[],[],rfl,rfl,rfl⟩⟩
 | [],_::_,h,_=>by simp[aC]at h
 | _::_,[],h,_=>by simp[aC]at h
 | a::p,b::q,d,h=>by
  simp only[aC,aA]at d;have c:=h a (by simp) b (by simp) d.1;have s:=(zu f g p q d.2 λx t y u=>h x (by simp[t]) y (by simp[u])).2;simp only[cE];cases e1:f a with
  | none=>
   rw[e1]at c;cases e:g b with
   | none=>simp[fl]
   | some _=>rw[e]at c;exact c.elim
  | some o=>
   rw[e1]at c;cases e:g b with
   | none=>rw[e]at c;exact c.elim
   | some v=>
    rw[e]at c;have d:ax N o M v=true:=c;rcases s with⟨j,k⟩|⟨l,r,j,k,m⟩
    ·rw[j,k];simp[fl]
    ·rw[j,k];exact⟨by simp[fl,ax,cX,aC,d,m],ai ⟨o::l,v::r,rfl,rfl,by simp[aC,d,m]⟩⟩
theorem zb(m:Nat)(b:List (Tm m))(i:Nat)(k:List (Tm i))(self:Int)(u:aC (λx y=>ax m x i y) b k=true)(z:∀y∈b,az ⟨m,y⟩)(A:∀y∈k,az ⟨i,y⟩):(n:Nat)->(x:Tm n)->(d:Nat)->(x':Tm d)->az ⟨n,x⟩->az ⟨d,x'⟩->ax n x d x'=true->fl (m+n) (i+d) (vl m b self n x) (vl i k self d x')
 | 0,_,_,_,_,_,h=>by simp[ax]at h
 | _+1,_,0,_,_,_,h=>by simp[ax]at h
 | n+1,x,d+1,x',hx,hx',h=>by
  obtain⟨H,j⟩:=bD h;unfold vl;rw[<-H];by_cases s:x.1.1=5
  ·rw[if_pos s,if_pos s];rcases qr u x.1.2.1.toNat with⟨e,f⟩|⟨y,F,e,f,C,p,q⟩
   ·rw[e,f];trivial
   ·rw[e,f];simp only[dh];rw[<-(kF _ _ _ _ C).1];by_cases g:bO ⟨m,y⟩=6
    ·rw[if_pos g,if_pos g];trivial
    ·rw[if_neg g,if_neg g];exact iA (by omega) (by omega) (z y p) (A _ q) C
  ·rw[if_neg s,if_neg s];by_cases g:x.1.1=6
   ·rw[if_pos g,if_pos g];trivial
   ·rw[if_neg g,if_neg g];by_cases r:x.1.1=4
    ·rw[if_pos r,if_pos r,<-rJ j,<-rJ j,<-rJ j];by_cases B:tj n x.2.2 pn 0=true
     ·rw[if_pos B,if_pos B];simp[fl,ax,bK,aC]
     ·rw[if_neg B,if_neg B];by_cases t:tj n x.2.2 vm 2=true
      ·rw[if_pos t,if_pos t];rcases qr j 1 with⟨e,f⟩|⟨a,o,e,f,l,p,q⟩
       ·rw[e,f];trivial
       ·rcases qr j 2 with⟨D,E⟩|⟨c,G,D,E,K,M,N⟩
        ·rw[e,f,D,E];trivial
        ·rw[e,f,D,E];simp only[dh];exact mU (zb m b i k self u z A n a d o (aT n x a hx p) (aT d x' o hx' q) l) λO v I=>mU (zb m b i k self u z A n c d G (aT n x c hx M) (aT d x' G hx' N) K) λP Q J=>xd I J
      ·rw[if_neg t,if_neg t];by_cases w:tj n x.2.2 BI 1=true
       ·rw[if_pos w,if_pos w];rcases qr j 1 with⟨e,f⟩|⟨a,o,e,f,l,p,q⟩
        ·rw[e,f];trivial
        ·rw[e,f];simp only[dh,cw _ _ _ _ l];cases aJ d o
         ·simp[fl]
         ·exact iA (by omega) (by omega) (aT n x a hx p) (aT d x' o hx' q) l
       ·rw[if_neg w,if_neg w];exact(zu _ _ x.2.2 x'.2.2 j λy C F L l=>zb m b i k self u z A n y d F (aT n x y hx C) (aT d x' F hx' L) l).1
    ·rw[if_neg r,if_neg r];exact iA (by omega) (by omega) hx hx' h
theorem EH{B:List Tc}(c:∀y∈B,az ⟨13,y⟩)(self:Int){n a:Nat}{x:Tm n}{x':Tm a}(g:az ⟨n,x⟩)(h:az ⟨a,x'⟩)(e:ax n x a x'=true):rn B self n x=rn B self a x':=by
 have f:aC (λx y=>ax 13 x 13 y) B B=true:=iE _ _ λy i=>fe 13 y (c y i);have k:=zb 13 B 13 B self f c c n x a x' g h e;unfold rn;cases e1:vl 13 B self n x with
 | none=>
  rw[e1]at k;cases b:vl 13 B self a x' with
  | none=>rfl
  | some _=>rw[b]at k;exact k.elim
 | some j=>
  rw[e1]at k;cases b:vl 13 B self a x' with
  | none=>rw[b]at k;exact k.elim
  | some l=>
   rw[b]at k;have d:ax (13+n) j (13+a) l=true:=k;simp only[dh];rw[bM d,gV d]
def N7(k:Nat)(d:Dg):Prop:=(∀y∈d.b,az ⟨13,y⟩)/\1<=d.next/\d.next+k<=100
theorem sI{n:Nat}(a:Ac (n+1)):(a.1=1/\(bY n a).2.2=[aY l9 n,a.2.1.1,a.2.1.2])\/(a.1=2/\(bY n a).2.2=[aY iJ n,aY a.2.2.1 n,a.2.1.2,bK 5 a.2.2.2 n])\/(a.1=3/\(bY n a).2.2=[aY l7 n,a.2.1.1])\/((a.1≠1/\a.1≠2/\a.1≠3)/\(bY n a).2.2=[aY lk n]):=by
 unfold bY;by_cases b:a.1=1
 ·exact ah ⟨b,by rw[if_pos b];rfl⟩
 ·by_cases c:a.1=2
  ·exact ai (ah ⟨c,by rw[if_neg b,if_pos c];rfl⟩)
  ·by_cases d:a.1=3
   ·exact ai (ai (ah ⟨d,by rw[if_neg b,if_neg c,if_pos d];rfl⟩))
   ·exact ai (ai (ai ⟨⟨b,c,d⟩,by rw[if_neg b,if_neg c,if_neg d];rfl⟩))
theorem Gc{a:Int}(d:1<=a/\a<=99):az ⟨13,C4 a⟩:=by
 intro c b;have b:c∈[(((3,a,.empty),(none,0,0)):Nd)]:=b;obtain rfl:=de.1 b;simp[cv,qd,d]
theorem Ih{n m:Nat}{a:Ac (n+1)}{b:Ac (m+1)}(c:ax (n+2) (bY n a) (m+2) (bY m b)=true)(w:az ⟨n+2,bY n a⟩)(y:az ⟨m+2,bY m b⟩)(self:Int){k:Nat}{d:Dg}(z:N7 (k+1) d):qz self a d=qz self b d/\∀h,qz self a d=some h->N7 k h:=by
 obtain⟨_,e⟩:=bD c;have F:=λl j=>aT (n+1) (bY n a) l w j;have G:=λl j=>aT (m+1) (bY m b) l y j;have v:=cD _ _ _ e;obtain⟨d1,q,I⟩:=z;have i:∀{x:Tm (n+1)}{x':Tm (m+1)},x∈(bY n a).2.2->x'∈(bY m b).2.2->ax (n+1) x (m+1) x'=true->rn d.b self (n+1) x=rn d.b self (m+1) x':=λA B C=>EH d1 self (F _ A) (G _ B) C;rcases sI a with⟨f,o⟩|⟨f,o⟩|⟨f,o⟩|⟨f,o⟩<;>rcases sI b with⟨g,p⟩|⟨g,p⟩|⟨g,p⟩|⟨g,p⟩<;>rw[o,p]at v e i
 case inl.inl=>
  simp only[aC,aA,and_true]at e;have r:=i (x:=a.2.1.1) (x':=b.2.1.1) (by simp) (by simp) e.2.1;have s:=i (x:=a.2.1.2) (x':=b.2.1.2) (by simp) (by simp) e.2.2;unfold qz;rw[if_pos f,if_pos g,s];unfold mR;rw[r];refine⟨rfl,λh c=>?_⟩;obtain⟨H,_,c⟩:=br.1 c;obtain⟨t,_,rfl⟩:=cd.1 c;exact⟨d1,q,by simp only;omega⟩
 case inr.inl.inr.inl=>
  simp only[aC,aA,and_true]at e;have s:=i (x:=a.2.1.2) (x':=b.2.1.2) (by simp) (by simp) e.2.2.1;have D:a.2.2.1=b.2.2.1:=by
   have:=(bD e.2.1).1;simpa [aY]using this
  have E:a.2.2.2=b.2.2.2:=by
   have:=(bD e.2.2.2).1;simpa [bK]using this
  unfold qz;rw[if_neg (show¬a.1=1 by omega),if_neg (show¬b.1=1 by omega),if_pos f,if_pos g,s,D,E];refine⟨rfl,λh c=>?_⟩;obtain⟨t,_,c⟩:=br.1 c;split at c
  ·obtain rfl:=au c;refine⟨λl j=>?_,by simp only;omega,by simp only;omega⟩;rcases sg j with u|u
   ·exact d1 l u
   ·rw[u];exact Gc (by omega)
  ·cases c
 case inr.inr.inl.inr.inr.inl=>
  simp only[aC,aA,and_true]at e;have r:=i (x:=a.2.1.1) (x':=b.2.1.1) (by simp) (by simp) e.2;unfold qz;rw[if_neg (show¬a.1=1 by omega),if_neg (show¬b.1=1 by omega),if_neg (show¬a.1=2 by omega),if_neg (show¬b.1=2 by omega),if_pos f,if_pos g];unfold mR;rw[r];refine⟨rfl,λh c=>?_⟩;obtain⟨H,_,rfl⟩:=cd.1 c;exact⟨d1,q,by simp only;omega⟩
 case inr.inr.inr.inr.inr.inr=>
  unfold qz;rw[if_neg f.1,if_neg g.1,if_neg f.2.1,if_neg g.2.1,if_neg f.2.2,if_neg g.2.2];refine⟨rfl,λh c=>?_⟩;obtain rfl:=au c;exact⟨d1,q,by simp only;omega⟩
 all_goals exact absurd v (by simp)
theorem zY{n m:Nat}(self:Int):(l:List (Ac (n+1)))->(r:List (Ac (m+1)))->aC (λx y=>ax (n+2) x (m+2) y) (l.map (bY n)) (r.map (bY m))=true->(∀a∈l,az ⟨n+2,bY n a⟩)->(∀b∈r,az ⟨m+2,bY m b⟩)->∀{d:Dg},N7 l.length d->pE self l d=pE self r d/\∀f,pE self l d=some f->∀y∈f.b,az ⟨13,y⟩
 | [],[],_,_,_,d,hd=>⟨rfl,λf c=>by obtain rfl:=au c;exact hd.1⟩
 | [],_::_,c,_,_,_,_=>by simp[aC]at c
 | _::_,[],c,_,_,_,_=>by simp[aC]at c
 | a::l,b::r,c,ha,hb,d,hd=>by
  simp only[aK,aC,aA]at c;obtain⟨h,i⟩:=Ih c.1 (ha a (by simp)) (hb b (by simp)) self hd;unfold pE;rw[<-h];cases e:qz self a d with
  | none=>exact⟨rfl,λ_ c=>by cases c⟩
  | some f=>exact zY self l r c.2 (λx g=>ha x (by simp[g])) (λx g=>hb x (by simp[g])) (i f e)
def Nm{n m:Nat}(c:Cl (n+1))(a:Cl (m+1)):Prop:=(ax (n+1) c.1.1 (m+1) a.1.1=true/\ax (n+1) c.1.2.1 (m+1) a.1.2.1=true/\ax (n+1) c.1.2.2 (m+1) a.1.2.2=true)/\aC (λx y=>ax (n+2) x (m+2) y) (c.2.2.map (bY n)) (a.2.2.map (bY m))=true
theorem nR{n m:Nat}{x:Tm (n+1)}{y:Tm (m+1)}(b:bu (n+1) x=0)(c:bu (m+1) y=0)(a:ax (n+3) (aO (n+3) (n+1) x) (m+3) (aO (m+3) (m+1) y)=true):ax (n+1) x (m+1) y=true:=
 bQ _ _ _ _ _ _ (dK _ _ _ _ (eZ (n+3) (n+1) (by omega) x (aL.2 (bw.1 b).1))) (bQ _ _ _ _ _ _ a (eZ (m+3) (m+1) (by omega) y (aL.2 (bw.1 c).1)))
theorem KC{n m:Nat}{c:Cl (n+1)}{a:Cl (m+1)}(f:ax (n+4) (dw n c) (m+4) (dw m a)=true)(b:pu c)(d:pu a):Nm c a:=by
 obtain⟨_,e⟩:=bD f;simp only[dw,cX,aC,aA,and_true]at e;obtain⟨_,g,h,i,j⟩:=e;exact⟨⟨nR b.1 d.1 g,nR b.2.1 d.2.1 h,nR b.2.2.1 d.2.2.1 j⟩,(bD i).2⟩
theorem Ks:mG.length=4/\∀y∈mG,BY y:=by
 refine⟨rfl,λy a=>?_⟩;simp only[mG,ns,ci]at a;obtain⟨c,b,rfl⟩:=a;rw[List.eq_of_mem_replicate b];exact⟨by kernel_rfl,ah rfl⟩
theorem Fk{n m:Nat}{c:Cl (n+1)}{e:Cl (m+1)}(f:Nm c e){s t:Tc}(j:bu 13 s=0/\aJ 13 s=true)(k:bu 13 t=0/\aJ 13 t=true):kQ c s t=kQ e s t/\∀b,kQ c s t=some b->∀y∈b,az ⟨13,y⟩:=by
 have r:ax 13 s 13 s=true:=fe _ _ (aL.2 (bw.1 j.1).1);have u:ax 13 t 13 t=true:=fe _ _ (aL.2 (bw.1 k.1).1);have a:=lN _ c.1.1 13 s _ e.1.1 13 s mG mG f.1.1 r tJ;unfold kQ;cases e1:gQ (n+1) c.1.1 13 s mG with
 | none=>
  rw[e1]at a;cases g:gQ (m+1) e.1.1 13 s mG with
  | none=>exact⟨rfl,λ_ f=>by cases f⟩
  | some _=>rw[g]at a;exact a.elim
 | some b=>
  rw[e1]at a;cases g:gQ (m+1) e.1.1 13 s mG with
  | none=>rw[g]at a;exact a.elim
  | some i=>
   rw[g]at a;have q:=kD BY nK _ c.1.1 13 s ⟨j.1,ai j.2⟩ _ _ Ks e1;have d:=lN _ c.1.2.1 13 t _ e.1.2.1 13 t b i f.1.2.1 u a;simp only[dh];cases e3:gQ (n+1) c.1.2.1 13 t b with
   | none=>
    rw[e3]at d;cases h:gQ (m+1) e.1.2.1 13 t i with
    | none=>exact⟨rfl,λ_ f=>by cases f⟩
    | some _=>rw[h]at d;exact d.elim
   | some x=>
    rw[e3]at d;cases h:gQ (m+1) e.1.2.1 13 t i with
    | none=>rw[h]at d;exact d.elim
    | some z=>
     rw[h]at d;refine⟨by simp only[Option.map_some];rw[Hv d],λw l y o=>?_⟩;obtain rfl:=au l;obtain⟨v,p,rfl⟩:=ci.1 o;exact aL.2 (bw.1 (pC ((kD BY nK _ c.1.2.1 13 t ⟨k.1,ai k.2⟩ _ _ q e3).2 v p).1)).1
theorem rA{n m:Nat}(name:ByteArray):(l:List (Bh (n+1)))->(r:List (Bh (m+1)))->aC (λx y=>ax (n+5) x (m+5) y) (l.map (dF n)) (r.map (dF m))=true->(fX (n+1) name l=none/\fX (m+1) name r=none)\/∃b a,fX (n+1) name l=some b/\fX (m+1) name r=some a/\aC (λx y=>ax (n+4) x (m+4) y) (b.2.2.map (dw n)) (a.2.2.map (dw m))=true/\b∈l/\a∈r
 | [],[],_=>ah ⟨rfl,rfl⟩
 | [],_::_,h=>by simp[aC]at h
 | _::_,[],h=>by simp[aC]at h
 | b::l,a::r,h=>by
  simp only[aK,aC,aA]at h;obtain⟨_,f⟩:=bD h.1;simp only[dF,cX,aC,aA]at f;have e:b.1=a.1:=by
   have:=(bD f.2.1).1;simpa [aY]using this
  unfold fX;rw[e];by_cases d:a.1=name
  ·rw[if_pos d,if_pos d];exact ai ⟨b,a,rfl,rfl,f.2.2,by simp,by simp⟩
  ·rw[if_neg d,if_neg d];rcases rA name l r h.2 with k|⟨c,g,i,j,o,p,q⟩
   ·exact ah k
   ·exact ai ⟨c,g,i,j,o,by simp[p],by simp[q]⟩
theorem vW{n m:Nat}{s t:Tc}(o:bu 13 s=0/\aJ 13 s=true)(p:bu 13 t=0/\aJ 13 t=true):(l:List (Cl (n+1)))->(r:List (Cl (m+1)))->aC (λx y=>ax (n+4) x (m+4) y) (l.map (dw n)) (r.map (dw m))=true->(∀c∈l,pu c)->(∀c∈r,pu c)->(lJ s t l=none/\lJ s t r=none)\/∃c a b,lJ s t l=some (c,b)/\lJ s t r=some (a,b)/\Nm c a/\(c∈l/\a∈r)/\∀y∈b,az ⟨13,y⟩
 | [],[],_,_,_=>ah ⟨rfl,rfl⟩
 | [],_::_,h,_,_=>by simp[aC]at h
 | _::_,[],h,_,_=>by simp[aC]at h
 | c::l,a::r,h,hl,hr=>by
  simp only[aK,aC,aA]at h;have j:=KC h.1 (hl c (by simp)) (hr a (by simp));obtain⟨g,i⟩:=Fk j o p;unfold lJ;rw[<-g];cases e:kQ c s t with
  | some b=>exact ai ⟨c,a,b,rfl,rfl,j,⟨by simp,by simp⟩,i b e⟩
  | none=>
   rcases vW o p l r h.2 (λx f=>hl x (by simp[f])) (λx f=>hr x (by simp[f]))with k|⟨d,u,b,g,i,v,q,w⟩
   ·exact ah k
   ·exact ai ⟨d,u,b,g,i,v,⟨by simp[q.1],by simp[q.2]⟩,w⟩
theorem tR{n m:Nat}{s:Tc}(k:bu 13 s=0/\aJ 13 s=true){l:List (Cl (n+1))}{r:List (Cl (m+1))}(f:aC (λx y=>ax (n+4) x (m+4) y) (l.map (dw n)) (r.map (dw m))=true)(g:∀c∈l,pu c)(h:∀c∈r,pu c):(ms:List Tc)->(∀t∈ms,bu 13 t=0/\aJ 13 t=true)->(i:Nat)->(rC l s ms i=none/\rC r s ms i=none)\/∃j c a b,rC l s ms i=some (j,c,b)/\rC r s ms i=some (j,a,b)/\Nm c a/\(c∈l/\a∈r)/\∀y∈b,az ⟨13,y⟩
 | [],_,_=>ah ⟨rfl,rfl⟩
 | t::ms,ht,i=>by
  unfold rC;rcases vW k (ht t (by simp)) l r f g h with⟨d,e⟩|⟨c,a,b,d,e,p⟩
  ·rw[d,e];exact tR k f g h ms (λx o=>ht x (by simp[o])) (i+1)
  ·rw[d,e];exact ai ⟨i,c,a,b,rfl,rfl,p⟩
theorem EN{n:Nat}{c:Cl (n+1)}(d:bu (n+3) (cX (n+2) (c.2.2.map (bY n)))=0):∀a∈c.2.2,az ⟨n+2,bY n a⟩:=λa b=>aL.2 (bw.1 (fw d (by simp only[cX];exact iQ b))).1
theorem Fs{n m:Nat}{c:Cl (n+1)}{f:Cl (m+1)}(h:Nm c f)(g:pu c/\∀a∈c.2.2,az ⟨n+2,bY n a⟩)(i:pu f/\∀a∈f.2.2,az ⟨m+2,bY m a⟩)(room self next:Int)(k:1<=next/\next<=92)(s t:Tc)(ms:List Tc){b:List Tc}(j:∀y∈b,az ⟨13,y⟩):eO room self next s t ms c b=eO room self next s t ms f b:=by
 have p:=g.1.2.2.2.1;obtain⟨l,o⟩:=zY self c.2.2 f.2.2 h.2 g.2 i.2 (d:=⟨b,next,[],[],[],false⟩) ⟨j,k.1,by simp only;omega⟩;unfold eO;rw[<-l];cases e:pE self c.2.2 ⟨b,next,[],[],[],false⟩with
 | none=>rfl
 | some d=>
  have:=EH (o d e) self (aL.2 (bw.1 g.1.2.2.1).1) (aL.2 (bw.1 i.1.2.2.1).1) h.1.2.2;simp only[this]
theorem wL{n:Nat}{p:List (Bh (n+1))}(d:nt n p=0):∀b∈p,∀c∈b.2.2,pu c/\∀a∈c.2.2,az ⟨n+2,bY n a⟩:=λb e c f=>by
 have g:=(fE d).2.1;have h:bu (n+5) (dF n b)=0:=fw g (by simp only[bW,cX];exact bI _ (iQ e));have i:bu (n+4) (dw n c)=0:=fw h (by simp only[dF,cX];exact bI _ (bI _ (iQ f)));exact⟨((Ew d).2 b e).2 c f,EN (tP i 3 rfl)⟩
theorem ve{n m:Nat}{P:List (Bh (n+1))}{Q:List (Bh (m+1))}(b:ax (n+6) (bW n P) (m+6) (bW m Q)=true):aC (λx y=>ax (n+5) x (m+5) y) (P.map (dF n)) (Q.map (dF m))=true:=by
 obtain⟨_,a⟩:=bD b;simp only[bW,cX,aC,aA]at a;exact a.2
theorem uq{n m:Nat}{P:List (Bh (n+1))}{Q:List (Bh (m+1))}(d:ax (n+6) (bW n P) (m+6) (bW m Q)=true)(nm:ByteArray):kJ n P nm=kJ m Q nm:=by
 unfold kJ;rcases rA nm P Q (ve d)with⟨a,c⟩|⟨b,e,a,c,_⟩<;>rw[a,c]<;>rfl
theorem Gu{n m:Nat}{P:List (Bh (n+1))}{Q:List (Bh (m+1))}(y:ax (n+6) (bW n P) (m+6) (bW m Q)=true)(z:nt n P=0)(A:nt m Q=0)(room:Int)(nm:ByteArray)(self next:Int)(B:1<=next/\next<=92){s:Tc}(w:bu 13 s=0/\aJ 13 s=true){ms:List Tc}(v:∀t∈ms,bu 13 t=0/\aJ 13 t=true):l6 room P nm self next s ms=l6 room Q nm self next s ms:=by
 have p:=wL z;have q:=wL A;have key:(rC (f9 nm P) s ms 0=none/\rC (f9 nm Q) s ms 0=none)\/∃f c a b,rC (f9 nm P) s ms 0=some (f,c,b)/\rC (f9 nm Q) s ms 0=some (f,a,b)/\Nm c a/\((pu c/\∀i∈c.2.2,az ⟨n+2,bY n i⟩)/\pu a/\∀i∈a.2.2,az ⟨m+2,bY m i⟩)/\∀H∈b,az ⟨13,H⟩:=by
  unfold f9;rcases rA nm P Q (ve y)with⟨d,e⟩|⟨b,u,d,e,o,g,h⟩
  ·rw[d,e];rcases tR w (l:=([]:List (Cl (n+1)))) (r:=([]:List (Cl (m+1)))) rfl (by simp) (by simp) ms v 0 with k|⟨_,_,_,_,_,_,_,k,_⟩
   ·exact ah k
   ·cases k.1
  ·rw[d,e];rcases tR w o (λc j=>(p b g c j).1) (λc j=>(q u h c j).1) ms v 0 with k|⟨f,c,a,G,C,D,E,x,F⟩
   ·exact ah k
   ·exact ai ⟨f,c,a,G,C,D,E,⟨p b g c x.1,q u h a x.2⟩,F⟩
 unfold l6;rcases key with⟨d,e⟩|⟨f,c,a,b,d,e,o,g,h⟩
 ·rw[d,e];rfl
 ·rw[d,e];simp only[dh];congr 1;funext t;exact Fs o g.1 g.2 room self next B s t _ h
theorem KM{n m:Nat}{P:List (Bh (n+1))}{Q:List (Bh (m+1))}(d:ax (n+6) (bW n P) (m+6) (bW m Q)=true)(f:nt n P=0)(g:nt m Q=0){s:Sy}(q:∀a nm cs c,s.get a=some (nm,cs,c)->(bu 13 cs=0/\aJ 13 cs=true)/\∀t∈c,bu 13 t=0/\aJ 13 t=true)(v:0<=s.last/\s.last<=90)(room i a b:Int)(k:Nat)(x:Tm k):s.do n P room i a b k x=s.do m Q room i a b k x:=by
 have p:kJ n P=kJ m Q:=funext λnm=>uq d nm;have r:s.run n P room a=s.run m Q room a:=by
  unfold Sy.run;cases e:s.get a with
  | none=>rfl
  | some u=>
   obtain⟨nm,cs,c⟩:=u;obtain⟨j,l⟩:=q a nm cs c e;have h:=Gu d f g room nm a (s.last+1) ⟨by omega,by omega⟩ j l;have o:qU n room P nm a (s.last+1) cs c=qU m room Q nm a (s.last+1) cs c:=by
    unfold qU;rw[h,f,g]
   simp only[o,h,Sy.made,p];split
   ·cases l6 room Q nm a (s.last+1) cs c<;>rfl
   ·rfl
 unfold Sy.do;rw[r]
theorem Dn{n m:Nat}{P:List (Bh (n+1))}{Q:List (Bh (m+1))}(a:ax (n+6) (bW n P) (m+6) (bW m Q)=true)(s:Sy)(room:Int)(nm:ByteArray)(k:Nat)(x:Tm k):s.start n P room nm k x=s.start m Q room nm k x:=by
 unfold Sy.start;rw[uq a]
theorem IC{n:Nat}{P:List (Bh (n+1))}{k d:Nat}{x:Tm k}{y:Tm d}(c:ax k x d y=true)(s:Sy)(room a b:Int):s.do n P room 3 a b k x=s.do n P room 3 a b d y:=by
 unfold Sy.do Sy.inject;rw[bM c,cw _ _ _ _ c,gV c]
def p9:ByteArray:=⟨#[99,111,117,110,116]⟩
def Oz:ByteArray:=⟨#[117,112]⟩
def Oy:ByteArray:=⟨#[97,115,107]⟩
def NZ:ByteArray:=⟨#[104,97,118,101]⟩
def sL:ByteArray:=⟨#[102,111,114,107]⟩
def BH:ByteArray:=⟨#[98,97,100]⟩
def wA:ByteArray:=⟨#[97]⟩
def Nq:Option Addr×Nat:=(none,0)
def Hz(N:Nat):Tm (N+1):=bK 6 0 N
def KH(a:Int)(N:Nat):Tm (N+1):=bK 1 a N
def Ic(a:Int)(N:Nat):Tm (N+1):=bK 5 a N
def eU:List (Bh 2):=[(p9,Nq,[
 ((Ic 0 1,cX 1 [aY Oz 0,Ic 1 0],cX 1 [aY vm 0,Ic 0 0,Ic 1 0]),Nq,[]),
 ((Ic 0 1,cX 1 [aY Oy 0,Ic 1 0],Ic 0 1),Nq,[(1,(Ic 1 1,cX 1 [aY NZ 0,Ic 0 0]),.empty,0)]),
 ((Hz 1,aY sL 1,KH 1 1),Nq,[(2,(zT 1,KH 0 1),p9,0),(3,(Ic 0 1,zT 1),.empty,0),(1,(Ic 0 1,cX 1 [aY Oz 0,KH 7 0]),.empty,0)]),
 ((Hz 1,aY lk 1,KH 0 1),Nq,[(4,(zT 1,zT 1),.empty,0)]),
 ((Hz 1,aY BH 1,cX 1 [aY vm 0,aY wA 0,aY wA 0]),Nq,[])])]
def uE:Tc:=cX 12 [aY Oz 11,KH 3 11]
def E8:Sy:=(Kh.start 1 eU 60 p9 1 (KH 2 0)).1
theorem Ig:nt 1 eU=0:=by kernel_rfl
theorem E9:(Kh.start 1 eU 60 p9 1 (KH 2 0)).2=0/\E8.last=1:=⟨by kernel_rfl,by kernel_rfl⟩
def Kg:List (Int×Int×Int×Tc):=[(3,1,0,uE),(1,1,0,vp),(3,1,0,aY sL 12),(1,1,0,vp),(2,1,2,vp),(1,2,0,vp)]
def NL:List (Int×Int×Int×Tc):=[(3,1,0,aY BH 12),(1,1,0,vp)]
def Ia(s:Sy)(e:Int×Int×Int×Tc):Sy×Int:=s.do 1 eU 60 e.1 e.2.1 e.2.2.1 13 e.2.2.2
def xS(s:Sy)(l:List (Int×Int×Int×Tc)):Sy:=l.foldl (λs e=>(Ia s e).1) s
def Cf:Sy->List (Int×Int×Int×Tc)->Bool
 | _,[]=>true
 | s,e::l=>(Ia s e).2==0 && Cf (Ia s e).1 l
theorem Ie:Cf E8 Kg=true:=by kernel_rfl
theorem KJ:Cf (xS E8 Kg) NL=true:=by kernel_rfl
theorem MJ:(xS E8 Kg).ps.map (·.1)=[1,2]:=by kernel_rfl
theorem If:((xS E8 Kg).get 2).map (λv=>(v.1,v.2.1.1))=some (p9,1,7,.empty):=by kernel_rfl
theorem KI:(xS (xS E8 Kg) NL).ps=[]:=by kernel_rfl
end Go.Proofs.YtckamaoibonjcaaGreat
