/- What is proved here: code.readAll at acts, clauses and behaviours, from what the reader of one does: what it returns is a new row of what is read, or false where one can't be. Condition: at most 8 terms. -/
import Derived.Test.YtckamaoibonjcaaGreatH33
namespace Go.Proofs.YtckamaoibonjcaaGreat
open Go.RowKit
set_option maxHeartbeats 4000000
set_option maxRecDepth 100000
theorem nG{l:List Value}(b:l.all (λa=>a.oneCell')=true):∀a∈l,a.oneCell'=true:=λa c=>by
 rw[b9]at b;exact b a c
def Om{a:Type}{n:Nat}(d:Nat->World->a->Prop)(e:(Nat->Prop)->a->Prop)(S:a->a->Prop)(f:a->List Value)(h:Nat)(T:TypeId)(g:Tm n->Option a)(p:List (Tm n))(w:World)(k:Nat)(v:Value)(wr:World):Prop:=
 ∃(b c:List a),b.length=k/\eU d e f h T 0 w.heap.size b v w wr/\cC g (p.take k)=some c/\eD S b c
theorem eU.slice{b:Type}{d:Nat->World->b->Prop}{e:(Nat->Prop)->b->Prop}{f:b->List Value}{k:Nat}{T:TypeId}{B base:Nat}{xs:List b}{v:Value}{w0 wr:World}(g:eU d e f k T B base xs v w0 wr):∃a c,v=.slice a xs.length c:=by
 rcases g.2.1.2 with⟨rfl,h⟩|⟨j,cap,i,rfl,_⟩
 ·exact⟨none,0,by rw[h]⟩
 ·exact⟨_,_,rfl⟩
theorem K5:(Tryz.prog.info? 224).map (λi=>(i.zero,i.size,i.bytes))=some (some (.agg #[ab 0,ab 0,ab 0,ae .empty,.slice none 0 0,ab 0,ab 0,ae .empty,.slice none 0 0,ae .empty,ab 0]),11,144):=by kernel_rfl
theorem Hc(n:Nat)(y:Ac n):∀a∈fT n y,a.oneCell'=true:=nG rfl
theorem yC(M n:Nat)(p:List (Tm n))(len:Nat)(aw:Hid (p.length=len))(bb:len<=8)(a:Option Addr)(pc B:Nat)(w:World)(r:Hid (ft B w n p a))(aO:B<=w.heap.size)(H:Hid (∀x∈p,∀w1,ai w w1->ak 157 #[df n x] w1 (qe (fT (M+1)) (ic (M+1)) (lp (M+1)) (BU (M+1)) (rK M n x) w1))):ak 156 #[.slice a len pc,.func (Fn.func 157) #[] #[]] w (kN 11 (fT (M+1)) (ic (M+1)) (lp (M+1)) (BU (M+1)) (cC (rK M n) p) w):=by
 obtain⟨aX,ap,ax,ay,aA⟩:=bQ K5;have I:=ao (⟨ap,ax,ay,aA⟩:_/\_/\_/\_);clear ap ax ay aA;have q:=ao (fu (M+1));go_enter Tryz.func156,Tryz.ntmps156;go_wp2_with fail;go_loopw [6,13] (λv O wr=>∃(k:Nat)(aD:Value),k<=len/\O=ab k/\aD=v/\Hid (Om (ic (M+1)) (lp (M+1)) (BU (M+1)) (fT (M+1)) 11 224 (rK M n) p w k aD wr)) (λ_ O _=>len-(intOf O).toNat)
 case atStart=>exact⟨0,_,by omega,rfl,rfl,[],[],rfl,eU.nil _,by simp[cC],eD.nil⟩
 case round=>
  obtain⟨k,v,a8,rfl,rfl,V⟩:=hrel;obtain⟨m,E,s,e,Y,W⟩:∃(m E:List (Ac (M+1))),Hid (m.length=k)/\Hid (eU (ic (M+1)) (lp (M+1)) (fT (M+1)) 11 224 0 w.heap.size m v w wr)/\Hid (cC (rK M n) (p.take k)=some E)/\Hid (eD (BU (M+1)) m E):=V.out;clear V;have N:w.heap.size<=wr.heap.size:=e.out.1.size;obtain⟨D,K,aB⟩:=e.out.slice;rw[s.out]at aB;subst aB;by_cases aT:k<len
  ·obtain⟨x,C⟩:∃x,p[k]?=some x:=⟨p[k]'(by rw[aw.out];exact aT),aE _⟩;have Z:=ao C;rcases(r.out.below (e.out.1.mono aO))with r|⟨aY,po,rfl,bd,r⟩
   ·subst r;simp at C
   obtain⟨aC,aV⟩:=r k x C;have G:Hid (∀w1,ai wr w1->ak 157 #[df n x] w1 (qe (fT (M+1)) (ic (M+1)) (lp (M+1)) (BU (M+1)) (rK M n x) w1)):=λw1 y=>H.out x (aG C) w1 (e.out.1.trans (y.mono N));obtain⟨o,A⟩:∃o,rK M n x=o:=⟨_,rfl⟩;rw[A]at G;have S:=ao A;have be:aY<wr.heap.size:=by omega
   clear r C A aV;cases n with
   | zero=>exact aC.elim
   | succ n=>
   obtain⟨a0,a1,a2,a3⟩:=aC;have J:df (n+1) x=.agg #[ab x.1.1,ab x.1.2.1,ae x.1.2.2,.slice x.2.1.1 x.2.2.length x.2.1.2]:=rfl;rw[J]at G;clear J;have a9:(0:Int)<=(k:Int):=by omega
   have ba:(k:Int)<(len:Int):=by omega
   go_wp2_with fail;refine(G.out _ aK).mono ?_;rintro a6 h ⟨d,aZ,rfl,j⟩;have F:Hid (ai wr h):=aK.trans (j.out.1.mono (by simp));have af:wr.heap.size<=h.heap.size:=F.out.size;have ad:Value.agg (fT (M+1) d).toArray=.agg #[ab d.1,ab d.2.1.1.1.1,ab d.2.1.1.1.2.1,ae d.2.1.1.1.2.2,.slice d.2.1.1.2.1.1 d.2.1.1.2.2.length d.2.1.1.2.1.2,ab d.2.1.2.1.1,ab d.2.1.2.1.2.1,ae d.2.1.2.1.2.2,.slice d.2.1.2.2.1.1 d.2.1.2.2.2.length d.2.1.2.2.1.2,ae d.2.2.1,ab d.2.2.2]:=rfl;rw[ad];clear ad G a0 a1 a2 a3;cases aZ
   ·have L:Hid (kN 11 (fT (M+1)) (ic (M+1)) (lp (M+1)) (BU (M+1)) (cC (rK M (n+1)) p) w (.returned (.tuple #[.slice none 0 0,.bool false])) (h.alloc (.cells #[ab d.1,ab d.2.1.1.1.1,ab d.2.1.1.1.2.1,ae d.2.1.1.1.2.2,.slice d.2.1.1.2.1.1 d.2.1.1.2.2.length d.2.1.1.2.1.2,ab d.2.1.2.1.1,ab d.2.1.2.1.2.1,ae d.2.1.2.1.2.2,.slice d.2.1.2.2.1.1 d.2.1.2.2.2.length d.2.1.2.2.1.2,ae d.2.2.1,ab d.2.2.2] 224))):=by
      have aq:cC (rK M (n+1)) p=none:=lA _ p k x Z.out (by
       have y:=j.out.2.1;rw[S.out];cases o with
       | none=>rfl
       | some i=>cases y)
      have z:ai w h:=e.out.1.trans (F.out.mono N);refine⟨[],none,0,false,rfl,z.trans (aK.mono z.size),by rw[aq];rfl,⟨aj _,aF _⟩,ag rfl,ag rfl,λi l=>by rw[aq]at l;cases l⟩
    clear j e;go_wp2_with fail;exact ar (v:=.tuple #[.slice none 0 0,.bool false]) (by simp[results,Tryz.results156,go_sem]) rfl L.out
   ·have X:=λ(P Q:Obj)(g c:Nat)(R:World) aU aR aP=>ao (eU.step q.out (T:=224) (w1:=(h.alloc P).alloc Q) (w2:=R) (g:=g) (c:=c) e.out (aF _) N (F.out.trans ((aK.trans (aK.mono (by simp))).mono af)) d (q.out.mono (by simp;omega) (q.out.below (aK.trans (aK.mono (by simp))) j.out.2.2.1)) (q.out.1 _ _ _ (λb z=>ah (by simp at z;omega)) j.out.2.2.2.1) aU aR aP);have U:=λ(P Q:Obj)=>ao (dG e.out.2.1 (F.out.trans ((aK.trans (aK.mono (by simp)):ai h ((h.alloc P).alloc Q)).mono af)));rw[s.out]at X U;go_wp2_with (at_builtin;refine wpList_append_lies _ rfl _ _ 145 rfl w.heap.size 224 aX _ 11 144 Tryz.underlying145 I.out.1 I.out.2.1 I.out.2.2.1 I.out.2.2.2 rfl (by decide) (.slice D k K) k (m.flatMap (fT (M+1))) (by simp[Act.eval]) (U _ _).out ⟨h.heap.size+1,0,none⟩ 1 1 (fT (M+1) d) (by simp[Act.eval]) rfl (World.news_of_block (cs:= #[ab d.1,ab d.2.1.1.1.1,ab d.2.1.1.1.2.1,ae d.2.1.1.1.2.2,.slice d.2.1.1.2.1.1 d.2.1.1.2.2.length d.2.1.1.2.1.2,ab d.2.1.2.1.1,ab d.2.1.2.1.2.1,ae d.2.1.2.1.2.2,.slice d.2.1.2.2.1.1 d.2.1.2.2.2.length d.2.1.2.2.1.2,ae d.2.2.1,ab d.2.2.2]) (t:=224) (fr:=(0,0)) (by have u:=az (h.alloc (.cells #[ab d.1,ab d.2.1.1.1.1,ab d.2.1.1.1.2.1,ae d.2.1.1.1.2.2,.slice d.2.1.1.2.1.1 d.2.1.1.2.2.length d.2.1.1.2.1.2,ab d.2.1.2.1.1,ab d.2.1.2.1.2.1,ae d.2.1.2.1.2.2,.slice d.2.1.2.2.1.1 d.2.1.2.2.2.length d.2.1.2.2.1.2,ae d.2.2.1,ab d.2.2.2] 224)) (.cells #[ab d.1,ab d.2.1.1.1.1,ab d.2.1.1.1.2.1,ae d.2.1.1.1.2.2,.slice d.2.1.1.2.1.1 d.2.1.1.2.2.length d.2.1.1.2.1.2,ab d.2.1.2.1.1,ab d.2.1.2.1.2.1,ae d.2.1.2.1.2.2,.slice d.2.1.2.2.1.1 d.2.1.2.2.2.length d.2.1.2.2.1.2,ae d.2.2.1,ab d.2.2.2] 224);simp only[gK]at u;exact u)) (Hc _ _) (by decide) (by unfold maxLen;omega) (by omega) (by simp;omega) (h.heap.size+1+1) (by simp) ?_;intro aN aL R av an am bc;have aJ:=X _ _ aN aL R av an (by simpa using am);clear av an am);have aH:Hid (∃i,o=some i/\BU (M+1) d i):=by
     have y:=j.out.2.1;cases o with
     | none=>cases y
     | some i=>exact⟨i,rfl,j.out.2.2.2.2 i rfl⟩
    obtain⟨i,l,aW⟩:=aH.out;have aI:=ao (S.out.trans l);go_roundw
    case rel=>exact⟨k+1,_,by omega,by go_num,rfl,m++ [d],E++ [i],by simp[s.out],aJ.out,ri _ _ _ _ Z.out _ _ Y.out aI.out,W.out.snoc aW⟩
    case measure=>simp[intOf];omega
  ·have L:Hid (kN 11 (fT (M+1)) (ic (M+1)) (lp (M+1)) (BU (M+1)) (cC (rK M n) p) w (.returned (.tuple #[.slice D k K,.bool true])) wr):=by
     have al:cC (rK M n) p=some E:=by have u:=Y.out;rw[bw (by rw[aw.out];omega)]at u;exact u
     obtain⟨a4,a5,aa,aQ,aS,A⟩:=eU.lay (f:=fT (M+1)) (k:=11) q.out (λ_=>rfl) e.out;rw[s.out]at aa;injection aa with aM a7 J;subst aM J;refine⟨m,D,K,true,by rw[s.out],e.out.1,by rw[al];rfl,aQ,aS,?_,λi l=>by rw[al]at l;obtain rfl:=au l;exact W.out⟩;exact(cu q.out 11 (fT (M+1)) D).1 _ _ _ (λb z=>by omega) A
   clear e;go_wp2_with fail;exact ar (v:=.tuple #[.slice D k K,.bool true]) (by simp[results,Tryz.results156,go_sem]) rfl L.out
theorem Cv:(Tryz.prog.info? 147).map (λi=>(i.zero,i.size,i.bytes))=some (some (.agg #[ab 0,ab 0,ae .empty,.slice none 0 0,ab 0,ab 0,ae .empty,.slice none 0 0,.slice none 0 0,ab 0,ab 0,ae .empty,.slice none 0 0]),13,192):=by kernel_rfl
theorem Hs(n:Nat)(y:Cl n):∀a∈eO n y,a.oneCell'=true:=nG rfl
theorem sX(M n:Nat)(p:List (Tm n))(len:Nat)(aw:Hid (p.length=len))(bb:len<=8)(a:Option Addr)(pc B:Nat)(w:World)(r:Hid (ft B w n p a))(aO:B<=w.heap.size)(H:Hid (∀x∈p,∀w1,ai w w1->ak 126 #[df n x] w1 (qe (eO (M+1)) (gL (M+1)) (ju (M+1)) (BO (M+1)) (yw M n x) w1))):ak 125 #[.slice a len pc,.func (Fn.func 126) #[] #[]] w (kN 13 (eO (M+1)) (gL (M+1)) (ju (M+1)) (BO (M+1)) (cC (yw M n) p) w):=by
 obtain⟨aX,ap,ax,ay,aA⟩:=bQ Cv;have I:=ao (⟨ap,ax,ay,aA⟩:_/\_/\_/\_);clear ap ax ay aA;have q:=ao (dU (M+1));go_enter Tryz.func125,Tryz.ntmps125;go_wp2_with fail;go_loopw [6,13] (λv O wr=>∃(k:Nat)(aD:Value),k<=len/\O=ab k/\aD=v/\Hid (Om (gL (M+1)) (ju (M+1)) (BO (M+1)) (eO (M+1)) 13 147 (yw M n) p w k aD wr)) (λ_ O _=>len-(intOf O).toNat)
 case atStart=>exact⟨0,_,by omega,rfl,rfl,[],[],rfl,eU.nil _,by simp[cC],eD.nil⟩
 case round=>
  obtain⟨k,v,a8,rfl,rfl,V⟩:=hrel;obtain⟨m,E,s,e,Y,W⟩:∃(m E:List (Cl (M+1))),Hid (m.length=k)/\Hid (eU (gL (M+1)) (ju (M+1)) (eO (M+1)) 13 147 0 w.heap.size m v w wr)/\Hid (cC (yw M n) (p.take k)=some E)/\Hid (eD (BO (M+1)) m E):=V.out;clear V;have N:w.heap.size<=wr.heap.size:=e.out.1.size;obtain⟨D,K,aB⟩:=e.out.slice;rw[s.out]at aB;subst aB;by_cases aT:k<len
  ·obtain⟨x,C⟩:∃x,p[k]?=some x:=⟨p[k]'(by rw[aw.out];exact aT),aE _⟩;have Z:=ao C;rcases(r.out.below (e.out.1.mono aO))with r|⟨aY,po,rfl,bd,r⟩
   ·subst r;simp at C
   obtain⟨aC,aV⟩:=r k x C;have G:Hid (∀w1,ai wr w1->ak 126 #[df n x] w1 (qe (eO (M+1)) (gL (M+1)) (ju (M+1)) (BO (M+1)) (yw M n x) w1)):=λw1 y=>H.out x (aG C) w1 (e.out.1.trans (y.mono N));obtain⟨o,A⟩:∃o,yw M n x=o:=⟨_,rfl⟩;rw[A]at G;have S:=ao A;have be:aY<wr.heap.size:=by omega
   clear r C A aV;cases n with
   | zero=>exact aC.elim
   | succ n=>
   obtain⟨a0,a1,a2,a3⟩:=aC;have J:df (n+1) x=.agg #[ab x.1.1,ab x.1.2.1,ae x.1.2.2,.slice x.2.1.1 x.2.2.length x.2.1.2]:=rfl;rw[J]at G;clear J;have a9:(0:Int)<=(k:Int):=by omega
   have ba:(k:Int)<(len:Int):=by omega
   go_wp2_with fail;refine(G.out _ aK).mono ?_;rintro a6 h ⟨d,aZ,rfl,j⟩;have F:Hid (ai wr h):=aK.trans (j.out.1.mono (by simp));have af:wr.heap.size<=h.heap.size:=F.out.size;have ad:Value.agg (eO (M+1) d).toArray=.agg #[ab d.1.1.1.1,ab d.1.1.1.2.1,ae d.1.1.1.2.2,.slice d.1.1.2.1.1 d.1.1.2.2.length d.1.1.2.1.2,ab d.1.2.1.1.1,ab d.1.2.1.1.2.1,ae d.1.2.1.1.2.2,.slice d.1.2.1.2.1.1 d.1.2.1.2.2.length d.1.2.1.2.1.2,.slice d.2.1.1 d.2.2.length d.2.1.2,ab d.1.2.2.1.1,ab d.1.2.2.1.2.1,ae d.1.2.2.1.2.2,.slice d.1.2.2.2.1.1 d.1.2.2.2.2.length d.1.2.2.2.1.2]:=rfl;rw[ad];clear ad G a0 a1 a2 a3;cases aZ
   ·have L:Hid (kN 13 (eO (M+1)) (gL (M+1)) (ju (M+1)) (BO (M+1)) (cC (yw M (n+1)) p) w (.returned (.tuple #[.slice none 0 0,.bool false])) (h.alloc (.cells #[ab d.1.1.1.1,ab d.1.1.1.2.1,ae d.1.1.1.2.2,.slice d.1.1.2.1.1 d.1.1.2.2.length d.1.1.2.1.2,ab d.1.2.1.1.1,ab d.1.2.1.1.2.1,ae d.1.2.1.1.2.2,.slice d.1.2.1.2.1.1 d.1.2.1.2.2.length d.1.2.1.2.1.2,.slice d.2.1.1 d.2.2.length d.2.1.2,ab d.1.2.2.1.1,ab d.1.2.2.1.2.1,ae d.1.2.2.1.2.2,.slice d.1.2.2.2.1.1 d.1.2.2.2.2.length d.1.2.2.2.1.2] 147))):=by
      have aq:cC (yw M (n+1)) p=none:=lA _ p k x Z.out (by
       have y:=j.out.2.1;rw[S.out];cases o with
       | none=>rfl
       | some i=>cases y)
      have z:ai w h:=e.out.1.trans (F.out.mono N);refine⟨[],none,0,false,rfl,z.trans (aK.mono z.size),by rw[aq];rfl,⟨aj _,aF _⟩,ag rfl,ag rfl,λi l=>by rw[aq]at l;cases l⟩
    clear j e;go_wp2_with fail;exact ar (v:=.tuple #[.slice none 0 0,.bool false]) (by simp[results,Tryz.results125,go_sem]) rfl L.out
   ·have X:=λ(P Q:Obj)(g c:Nat)(R:World) aU aR aP=>ao (eU.step q.out (T:=147) (w1:=(h.alloc P).alloc Q) (w2:=R) (g:=g) (c:=c) e.out (aF _) N (F.out.trans ((aK.trans (aK.mono (by simp))).mono af)) d (q.out.mono (by simp;omega) (q.out.below (aK.trans (aK.mono (by simp))) j.out.2.2.1)) (q.out.1 _ _ _ (λb z=>ah (by simp at z;omega)) j.out.2.2.2.1) aU aR aP);have U:=λ(P Q:Obj)=>ao (dG e.out.2.1 (F.out.trans ((aK.trans (aK.mono (by simp)):ai h ((h.alloc P).alloc Q)).mono af)));rw[s.out]at X U;go_wp2_with (at_builtin;refine wpList_append_lies _ rfl _ _ 136 rfl w.heap.size 147 aX _ 13 192 Tryz.underlying136 I.out.1 I.out.2.1 I.out.2.2.1 I.out.2.2.2 rfl (by decide) (.slice D k K) k (m.flatMap (eO (M+1))) (by simp[Act.eval]) (U _ _).out ⟨h.heap.size+1,0,none⟩ 1 1 (eO (M+1) d) (by simp[Act.eval]) rfl (World.news_of_block (cs:= #[ab d.1.1.1.1,ab d.1.1.1.2.1,ae d.1.1.1.2.2,.slice d.1.1.2.1.1 d.1.1.2.2.length d.1.1.2.1.2,ab d.1.2.1.1.1,ab d.1.2.1.1.2.1,ae d.1.2.1.1.2.2,.slice d.1.2.1.2.1.1 d.1.2.1.2.2.length d.1.2.1.2.1.2,.slice d.2.1.1 d.2.2.length d.2.1.2,ab d.1.2.2.1.1,ab d.1.2.2.1.2.1,ae d.1.2.2.1.2.2,.slice d.1.2.2.2.1.1 d.1.2.2.2.2.length d.1.2.2.2.1.2]) (t:=147) (fr:=(0,0)) (by have u:=az (h.alloc (.cells #[ab d.1.1.1.1,ab d.1.1.1.2.1,ae d.1.1.1.2.2,.slice d.1.1.2.1.1 d.1.1.2.2.length d.1.1.2.1.2,ab d.1.2.1.1.1,ab d.1.2.1.1.2.1,ae d.1.2.1.1.2.2,.slice d.1.2.1.2.1.1 d.1.2.1.2.2.length d.1.2.1.2.1.2,.slice d.2.1.1 d.2.2.length d.2.1.2,ab d.1.2.2.1.1,ab d.1.2.2.1.2.1,ae d.1.2.2.1.2.2,.slice d.1.2.2.2.1.1 d.1.2.2.2.2.length d.1.2.2.2.1.2] 147)) (.cells #[ab d.1.1.1.1,ab d.1.1.1.2.1,ae d.1.1.1.2.2,.slice d.1.1.2.1.1 d.1.1.2.2.length d.1.1.2.1.2,ab d.1.2.1.1.1,ab d.1.2.1.1.2.1,ae d.1.2.1.1.2.2,.slice d.1.2.1.2.1.1 d.1.2.1.2.2.length d.1.2.1.2.1.2,.slice d.2.1.1 d.2.2.length d.2.1.2,ab d.1.2.2.1.1,ab d.1.2.2.1.2.1,ae d.1.2.2.1.2.2,.slice d.1.2.2.2.1.1 d.1.2.2.2.2.length d.1.2.2.2.1.2] 147);simp only[gK]at u;exact u)) (Hs _ _) (by decide) (by unfold maxLen;omega) (by omega) (by simp;omega) (h.heap.size+1+1) (by simp) ?_;intro aN aL R av an am bc;have aJ:=X _ _ aN aL R av an (by simpa using am);clear av an am);have aH:Hid (∃i,o=some i/\BO (M+1) d i):=by
     have y:=j.out.2.1;cases o with
     | none=>cases y
     | some i=>exact⟨i,rfl,j.out.2.2.2.2 i rfl⟩
    obtain⟨i,l,aW⟩:=aH.out;have aI:=ao (S.out.trans l);go_roundw
    case rel=>exact⟨k+1,_,by omega,by go_num,rfl,m++ [d],E++ [i],by simp[s.out],aJ.out,ri _ _ _ _ Z.out _ _ Y.out aI.out,W.out.snoc aW⟩
    case measure=>simp[intOf];omega
  ·have L:Hid (kN 13 (eO (M+1)) (gL (M+1)) (ju (M+1)) (BO (M+1)) (cC (yw M n) p) w (.returned (.tuple #[.slice D k K,.bool true])) wr):=by
     have al:cC (yw M n) p=some E:=by have u:=Y.out;rw[bw (by rw[aw.out];omega)]at u;exact u
     obtain⟨a4,a5,aa,aQ,aS,A⟩:=eU.lay (f:=eO (M+1)) (k:=13) q.out (λ_=>rfl) e.out;rw[s.out]at aa;injection aa with aM a7 J;subst aM J;refine⟨m,D,K,true,by rw[s.out],e.out.1,by rw[al];rfl,aQ,aS,?_,λi l=>by rw[al]at l;obtain rfl:=au l;exact W.out⟩;exact(cu q.out 13 (eO (M+1)) D).1 _ _ _ (λb z=>by omega) A
   clear e;go_wp2_with fail;exact ar (v:=.tuple #[.slice D k K,.bool true]) (by simp[results,Tryz.results125,go_sem]) rfl L.out
theorem vw:(Tryz.prog.info? 138).map (λi=>(i.zero,i.size,i.bytes))=some (some (.agg #[ae .empty,.slice none 0 0]),2,40):=by kernel_rfl
theorem Ky(n:Nat)(y:Bh n):∀a∈oR n y,a.oneCell'=true:=nG rfl
theorem pL(M n:Nat)(p:List (Tm n))(len:Nat)(aw:Hid (p.length=len))(bb:len<=8)(a:Option Addr)(pc B:Nat)(w:World)(r:Hid (ft B w n p a))(aO:B<=w.heap.size)(H:Hid (∀x∈p,∀w1,ai w w1->ak 92 #[df n x] w1 (qe (oR (M+1)) (oP (M+1)) (jt (M+1)) (xA (M+1)) (yv M n x) w1))):ak 91 #[.slice a len pc,.func (Fn.func 92) #[] #[]] w (kN 2 (oR (M+1)) (oP (M+1)) (jt (M+1)) (xA (M+1)) (cC (yv M n) p) w):=by
 obtain⟨aX,ap,ax,ay,aA⟩:=bQ vw;have I:=ao (⟨ap,ax,ay,aA⟩:_/\_/\_/\_);clear ap ax ay aA;have q:=ao (dJ (M+1));go_enter Tryz.func91,Tryz.ntmps91;go_wp2_with fail;go_loopw [6,13] (λv O wr=>∃(k:Nat)(aD:Value),k<=len/\O=ab k/\aD=v/\Hid (Om (oP (M+1)) (jt (M+1)) (xA (M+1)) (oR (M+1)) 2 138 (yv M n) p w k aD wr)) (λ_ O _=>len-(intOf O).toNat)
 case atStart=>exact⟨0,_,by omega,rfl,rfl,[],[],rfl,eU.nil _,by simp[cC],eD.nil⟩
 case round=>
  obtain⟨k,v,a8,rfl,rfl,V⟩:=hrel;obtain⟨m,E,s,e,Y,W⟩:∃(m E:List (Bh (M+1))),Hid (m.length=k)/\Hid (eU (oP (M+1)) (jt (M+1)) (oR (M+1)) 2 138 0 w.heap.size m v w wr)/\Hid (cC (yv M n) (p.take k)=some E)/\Hid (eD (xA (M+1)) m E):=V.out;clear V;have N:w.heap.size<=wr.heap.size:=e.out.1.size;obtain⟨D,K,aB⟩:=e.out.slice;rw[s.out]at aB;subst aB;by_cases aT:k<len
  ·obtain⟨x,C⟩:∃x,p[k]?=some x:=⟨p[k]'(by rw[aw.out];exact aT),aE _⟩;have Z:=ao C;rcases(r.out.below (e.out.1.mono aO))with r|⟨aY,po,rfl,bd,r⟩
   ·subst r;simp at C
   obtain⟨aC,aV⟩:=r k x C;have G:Hid (∀w1,ai wr w1->ak 92 #[df n x] w1 (qe (oR (M+1)) (oP (M+1)) (jt (M+1)) (xA (M+1)) (yv M n x) w1)):=λw1 y=>H.out x (aG C) w1 (e.out.1.trans (y.mono N));obtain⟨o,A⟩:∃o,yv M n x=o:=⟨_,rfl⟩;rw[A]at G;have S:=ao A;have be:aY<wr.heap.size:=by omega
   clear r C A aV;cases n with
   | zero=>exact aC.elim
   | succ n=>
   obtain⟨a0,a1,a2,a3⟩:=aC;have J:df (n+1) x=.agg #[ab x.1.1,ab x.1.2.1,ae x.1.2.2,.slice x.2.1.1 x.2.2.length x.2.1.2]:=rfl;rw[J]at G;clear J;have a9:(0:Int)<=(k:Int):=by omega
   have ba:(k:Int)<(len:Int):=by omega
   go_wp2_with fail;refine(G.out _ aK).mono ?_;rintro a6 h ⟨d,aZ,rfl,j⟩;have F:Hid (ai wr h):=aK.trans (j.out.1.mono (by simp));have af:wr.heap.size<=h.heap.size:=F.out.size;have ad:Value.agg (oR (M+1) d).toArray=.agg #[ae d.1,.slice d.2.1.1 d.2.2.length d.2.1.2]:=rfl;rw[ad];clear ad G a0 a1 a2 a3;cases aZ
   ·have L:Hid (kN 2 (oR (M+1)) (oP (M+1)) (jt (M+1)) (xA (M+1)) (cC (yv M (n+1)) p) w (.returned (.tuple #[.slice none 0 0,.bool false])) (h.alloc (.cells #[ae d.1,.slice d.2.1.1 d.2.2.length d.2.1.2] 138))):=by
      have aq:cC (yv M (n+1)) p=none:=lA _ p k x Z.out (by
       have y:=j.out.2.1;rw[S.out];cases o with
       | none=>rfl
       | some i=>cases y)
      have z:ai w h:=e.out.1.trans (F.out.mono N);refine⟨[],none,0,false,rfl,z.trans (aK.mono z.size),by rw[aq];rfl,⟨aj _,aF _⟩,ag rfl,ag rfl,λi l=>by rw[aq]at l;cases l⟩
    clear j e;go_wp2_with fail;exact ar (v:=.tuple #[.slice none 0 0,.bool false]) (by simp[results,Tryz.results91,go_sem]) rfl L.out
   ·have X:=λ(P Q:Obj)(g c:Nat)(R:World) aU aR aP=>ao (eU.step q.out (T:=138) (w1:=(h.alloc P).alloc Q) (w2:=R) (g:=g) (c:=c) e.out (aF _) N (F.out.trans ((aK.trans (aK.mono (by simp))).mono af)) d (q.out.mono (by simp;omega) (q.out.below (aK.trans (aK.mono (by simp))) j.out.2.2.1)) (q.out.1 _ _ _ (λb z=>ah (by simp at z;omega)) j.out.2.2.2.1) aU aR aP);have U:=λ(P Q:Obj)=>ao (dG e.out.2.1 (F.out.trans ((aK.trans (aK.mono (by simp)):ai h ((h.alloc P).alloc Q)).mono af)));rw[s.out]at X U;go_wp2_with (at_builtin;refine wpList_append_lies _ rfl _ _ 22 rfl w.heap.size 138 aX _ 2 40 Tryz.underlying22 I.out.1 I.out.2.1 I.out.2.2.1 I.out.2.2.2 rfl (by decide) (.slice D k K) k (m.flatMap (oR (M+1))) (by simp[Act.eval]) (U _ _).out ⟨h.heap.size+1,0,none⟩ 1 1 (oR (M+1) d) (by simp[Act.eval]) rfl (World.news_of_block (cs:= #[ae d.1,.slice d.2.1.1 d.2.2.length d.2.1.2]) (t:=138) (fr:=(0,0)) (by have u:=az (h.alloc (.cells #[ae d.1,.slice d.2.1.1 d.2.2.length d.2.1.2] 138)) (.cells #[ae d.1,.slice d.2.1.1 d.2.2.length d.2.1.2] 138);simp only[gK]at u;exact u)) (Ky _ _) (by decide) (by unfold maxLen;omega) (by omega) (by simp;omega) (h.heap.size+1+1) (by simp) ?_;intro aN aL R av an am bc;have aJ:=X _ _ aN aL R av an (by simpa using am);clear av an am);have aH:Hid (∃i,o=some i/\xA (M+1) d i):=by
     have y:=j.out.2.1;cases o with
     | none=>cases y
     | some i=>exact⟨i,rfl,j.out.2.2.2.2 i rfl⟩
    obtain⟨i,l,aW⟩:=aH.out;have aI:=ao (S.out.trans l);go_roundw
    case rel=>exact⟨k+1,_,by omega,by go_num,rfl,m++ [d],E++ [i],by simp[s.out],aJ.out,ri _ _ _ _ Z.out _ _ Y.out aI.out,W.out.snoc aW⟩
    case measure=>simp[intOf];omega
  ·have L:Hid (kN 2 (oR (M+1)) (oP (M+1)) (jt (M+1)) (xA (M+1)) (cC (yv M n) p) w (.returned (.tuple #[.slice D k K,.bool true])) wr):=by
     have al:cC (yv M n) p=some E:=by have u:=Y.out;rw[bw (by rw[aw.out];omega)]at u;exact u
     obtain⟨a4,a5,aa,aQ,aS,A⟩:=eU.lay (f:=oR (M+1)) (k:=2) q.out (λ_=>rfl) e.out;rw[s.out]at aa;injection aa with aM a7 J;subst aM J;refine⟨m,D,K,true,by rw[s.out],e.out.1,by rw[al];rfl,aQ,aS,?_,λi l=>by rw[al]at l;obtain rfl:=au l;exact W.out⟩;exact(cu q.out 2 (oR (M+1)) D).1 _ _ _ (λb z=>by omega) A
   clear e;go_wp2_with fail;exact ar (v:=.tuple #[.slice D k K,.bool true]) (by simp[results,Tryz.results91,go_sem]) rfl L.out
end Go.Proofs.YtckamaoibonjcaaGreat
