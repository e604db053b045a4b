/- What is proved here: code.readAll at acts, clauses and behaviours, from what the reader of one does: what it returns is a new row of what is read, or false where one can't be. Condition: at most 8 terms. -/
import Derived.Test.YtckamaoibonjcaaGreatG33
namespace Go.Proofs.YtckamaoibonjcaaGreat
open Go.RowKit
set_option maxHeartbeats 4000000
set_option maxRecDepth 100000
theorem nJ{l:List Value}(b:l.all (λa=>a.oneCell')=true):∀a∈l,a.oneCell'=true:=λa c=>by
 rw[b9]at b;exact b a c
def Oh{a:Type}{n:Nat}(d:Nat->World->a->Prop)(e:(Nat->Prop)->a->Prop)(S:a->a->Prop)(f:a->List Value)(h:Nat)(T:TypeId)(g:Tm n->Option a)(p:List (Tm n))(w:World)(k:Nat)(v:Value)(wr:World):Prop:=
 ∃(b c:List a),b.length=k/\eR d e f h T 0 w.heap.size b v w wr/\cE g (p.take k)=some c/\eA S b c
theorem eR.slice{b:Type}{d:Nat->World->b->Prop}{e:(Nat->Prop)->b->Prop}{f:b->List Value}{k:Nat}{T:TypeId}{B base:Nat}{xs:List b}{v:Value}{w0 wr:World}(g:eR d e f k T B base xs v w0 wr):∃a c,v=ae a xs.length c:=by
 rcases g.2.1.2 with⟨rfl,h⟩|⟨j,cap,i,rfl,_⟩
 ·exact⟨none,0,by rw[h]⟩
 ·exact⟨_,_,rfl⟩
theorem K4:(Tryz.prog.info? 224).map (λi=>(i.zero,i.size,i.bytes))=some (some (.agg #[ab 0,ab 0,ab 0,af .empty,ae none 0 0,ab 0,ab 0,af .empty,ae none 0 0,af .empty,ab 0]),11,144):=by kernel_rfl
theorem Hc(n:Nat)(y:Ac n):∀a∈fW n y,a.oneCell'=true:=nJ rfl
theorem yH(M n:Nat)(p:List (Tm n))(len:Nat)(ax:Hid (p.length=len))(bc:len<=8)(a:Option Addr)(pc B:Nat)(w:World)(r:Hid (fp B w n p a))(aP:B<=w.heap.size)(H:Hid (∀x∈p,∀w1,aj w w1->am 157 #[dj n x] w1 (qm (fW (M+1)) (ij (M+1)) (lC (M+1)) (B4 (M+1)) (rR M n x) w1))):am 156 #[ae a len pc,.func (Fn.func 157) #[] #[]] w (kT 11 (fW (M+1)) (ij (M+1)) (lC (M+1)) (B4 (M+1)) (cE (rR M n) p) w):=by
 obtain⟨aY,aq,ay,az,aA⟩:=bS K4;have I:=ao (⟨aq,ay,az,aA⟩:_/\_/\_/\_);clear aq ay az aA;have q:=ao (fq (M+1));go_enter Tryz.func156,Tryz.ntmps156;go_wp2_with fail;go_loopw [6,13] (λv O wr=>∃(k:Nat)(aF:Value),k<=len/\O=ab k/\aF=v/\Hid (Oh (ij (M+1)) (lC (M+1)) (B4 (M+1)) (fW (M+1)) 11 224 (rR M n) p w k aF wr)) (λ_ O _=>len-(intOf O).toNat)
 case atStart=>exact⟨0,_,by omega,rfl,rfl,[],[],rfl,eR.nil _,by simp[cE],eA.nil⟩
 case round=>
  obtain⟨k,v,a9,rfl,rfl,V⟩:=hrel;obtain⟨m,E,s,e,Y,W⟩:∃(m E:List (Ac (M+1))),Hid (m.length=k)/\Hid (eR (ij (M+1)) (lC (M+1)) (fW (M+1)) 11 224 0 w.heap.size m v w wr)/\Hid (cE (rR M n) (p.take k)=some E)/\Hid (eA (B4 (M+1)) m E):=V.out;clear V;have N:w.heap.size<=wr.heap.size:=e.out.1.size;obtain⟨D,K,aC⟩:=e.out.slice;rw[s.out]at aC;subst aC;by_cases aU:k<len
  ·obtain⟨x,C⟩:∃x,p[k]?=some x:=⟨p[k]'(by rw[ax.out];exact aU),aH _⟩;have Z:=ao C;rcases(r.out.below (e.out.1.mono aP))with r|⟨aZ,po,rfl,be,r⟩
   ·subst r;simp at C
   obtain⟨aD,aW⟩:=r k x C;have G:Hid (∀w1,aj wr w1->am 157 #[dj n x] w1 (qm (fW (M+1)) (ij (M+1)) (lC (M+1)) (B4 (M+1)) (rR M n x) w1)):=λw1 y=>H.out x (aG C) w1 (e.out.1.trans (y.mono N));obtain⟨o,A⟩:∃o,rR M n x=o:=⟨_,rfl⟩;rw[A]at G;have S:=ao A;have bf:aZ<wr.heap.size:=by omega
   clear r C A aW;cases n with
   | zero=>exact aD.elim
   | succ n=>
   obtain⟨a1,a2,a3,a4⟩:=aD;have J:dj (n+1) x=.agg #[ab x.1.1,ab x.1.2.1,af x.1.2.2,ae x.2.1.1 x.2.2.length x.2.1.2]:=rfl;rw[J]at G;clear J;have ba:(0:Int)<=(k:Int):=by omega
   have bb:(k:Int)<(len:Int):=by omega
   go_wp2_with fail;refine(G.out _ aM).mono ?_;rintro a7 h ⟨d,a0,rfl,j⟩;have F:Hid (aj wr h):=aM.trans (j.out.1.mono (by simp));have ag:wr.heap.size<=h.heap.size:=F.out.size;have ad:Value.agg (fW (M+1) d).toArray=.agg #[ab d.1,ab d.2.1.1.1.1,ab d.2.1.1.1.2.1,af d.2.1.1.1.2.2,ae d.2.1.1.2.1.1 d.2.1.1.2.2.length d.2.1.1.2.1.2,ab d.2.1.2.1.1,ab d.2.1.2.1.2.1,af d.2.1.2.1.2.2,ae d.2.1.2.2.1.1 d.2.1.2.2.2.length d.2.1.2.2.1.2,af d.2.2.1,ab d.2.2.2]:=rfl;rw[ad];clear ad G a1 a2 a3 a4;cases a0
   ·have L:Hid (kT 11 (fW (M+1)) (ij (M+1)) (lC (M+1)) (B4 (M+1)) (cE (rR M (n+1)) p) w (.returned (.tuple #[ae none 0 0,.bool false])) (h.alloc (.cells #[ab d.1,ab d.2.1.1.1.1,ab d.2.1.1.1.2.1,af d.2.1.1.1.2.2,ae d.2.1.1.2.1.1 d.2.1.1.2.2.length d.2.1.1.2.1.2,ab d.2.1.2.1.1,ab d.2.1.2.1.2.1,af d.2.1.2.1.2.2,ae d.2.1.2.2.1.1 d.2.1.2.2.2.length d.2.1.2.2.1.2,af d.2.2.1,ab d.2.2.2] 224))):=by
      have ar:cE (rR M (n+1)) p=none:=lG _ p k x Z.out (by
       have y:=j.out.2.1;rw[S.out];cases o with
       | none=>rfl
       | some i=>cases y)
      have z:aj w h:=e.out.1.trans (F.out.mono N);refine⟨[],none,0,false,rfl,z.trans (aM.mono z.size),by rw[ar];rfl,⟨ak _,aE _⟩,ah rfl,ah rfl,λi l=>by rw[ar]at l;cases l⟩
    clear j e;go_wp2_with fail;exact av (v:=.tuple #[ae none 0 0,.bool false]) (by simp[results,Tryz.results156,go_sem]) rfl L.out
   ·have X:=λ(P Q:Obj)(g c:Nat)(R:World) aV aS aQ=>ao (eR.step q.out (T:=224) (w1:=(h.alloc P).alloc Q) (w2:=R) (g:=g) (c:=c) e.out (aE _) N (F.out.trans ((aM.trans (aM.mono (by simp))).mono ag)) d (q.out.mono (by simp;omega) (q.out.below (aM.trans (aM.mono (by simp))) j.out.2.2.1)) (q.out.1 _ _ _ (λb z=>ai (by simp at z;omega)) j.out.2.2.2.1) aV aS aQ);have U:=λ(P Q:Obj)=>ao (dJ e.out.2.1 (F.out.trans ((aM.trans (aM.mono (by simp)):aj h ((h.alloc P).alloc Q)).mono ag)));rw[s.out]at X U;go_wp2_with (at_builtin;refine wpList_append_lies _ rfl _ _ 145 rfl w.heap.size 224 aY _ 11 144 Tryz.underlying145 I.out.1 I.out.2.1 I.out.2.2.1 I.out.2.2.2 rfl (by decide) (ae D k K) k (m.flatMap (fW (M+1))) (by simp[Act.eval]) (U _ _).out ⟨h.heap.size+1,0,none⟩ 1 1 (fW (M+1) d) (by simp[Act.eval]) rfl (World.news_of_block (cs:= #[ab d.1,ab d.2.1.1.1.1,ab d.2.1.1.1.2.1,af d.2.1.1.1.2.2,ae d.2.1.1.2.1.1 d.2.1.1.2.2.length d.2.1.1.2.1.2,ab d.2.1.2.1.1,ab d.2.1.2.1.2.1,af d.2.1.2.1.2.2,ae d.2.1.2.2.1.1 d.2.1.2.2.2.length d.2.1.2.2.1.2,af d.2.2.1,ab d.2.2.2]) (t:=224) (fr:=(0,0)) (by have u:=aB (h.alloc (.cells #[ab d.1,ab d.2.1.1.1.1,ab d.2.1.1.1.2.1,af d.2.1.1.1.2.2,ae d.2.1.1.2.1.1 d.2.1.1.2.2.length d.2.1.1.2.1.2,ab d.2.1.2.1.1,ab d.2.1.2.1.2.1,af d.2.1.2.1.2.2,ae d.2.1.2.2.1.1 d.2.1.2.2.2.length d.2.1.2.2.1.2,af d.2.2.1,ab d.2.2.2] 224)) (.cells #[ab d.1,ab d.2.1.1.1.1,ab d.2.1.1.1.2.1,af d.2.1.1.1.2.2,ae d.2.1.1.2.1.1 d.2.1.1.2.2.length d.2.1.1.2.1.2,ab d.2.1.2.1.1,ab d.2.1.2.1.2.1,af d.2.1.2.1.2.2,ae d.2.1.2.2.1.1 d.2.1.2.2.2.length d.2.1.2.2.1.2,af d.2.2.1,ab d.2.2.2] 224);simp only[gM]at u;exact u)) (Hc _ _) (by decide) (by unfold maxLen;omega) (by omega) (by simp;omega) (h.heap.size+1+1) (by simp) ?_;intro aO aL R aw ap an bd;have aK:=X _ _ aO aL R aw ap (by simpa using an);clear aw ap an);have aI:Hid (∃i,o=some i/\B4 (M+1) d i):=by
     have y:=j.out.2.1;cases o with
     | none=>cases y
     | some i=>exact⟨i,rfl,j.out.2.2.2.2 i rfl⟩
    obtain⟨i,l,aX⟩:=aI.out;have aJ:=ao (S.out.trans l);go_roundw
    case rel=>exact⟨k+1,_,by omega,by go_num,rfl,m++ [d],E++ [i],by simp[s.out],aK.out,ru _ _ _ _ Z.out _ _ Y.out aJ.out,W.out.snoc aX⟩
    case measure=>simp[intOf];omega
  ·have L:Hid (kT 11 (fW (M+1)) (ij (M+1)) (lC (M+1)) (B4 (M+1)) (cE (rR M n) p) w (.returned (.tuple #[ae D k K,.bool true])) wr):=by
     have al:cE (rR M n) p=some E:=by have u:=Y.out;rw[bC (by rw[ax.out];omega)]at u;exact u
     obtain⟨a5,a6,aa,aR,aT,A⟩:=eR.lay (f:=fW (M+1)) (k:=11) q.out (λ_=>rfl) e.out;rw[s.out]at aa;injection aa with aN a8 J;subst aN J;refine⟨m,D,K,true,by rw[s.out],e.out.1,by rw[al];rfl,aR,aT,?_,λi l=>by rw[al]at l;obtain rfl:=au l;exact W.out⟩;exact(cB q.out 11 (fW (M+1)) D).1 _ _ _ (λb z=>by omega) A
   clear e;go_wp2_with fail;exact av (v:=.tuple #[ae D k K,.bool true]) (by simp[results,Tryz.results156,go_sem]) rfl L.out
theorem Cz:(Tryz.prog.info? 147).map (λi=>(i.zero,i.size,i.bytes))=some (some (.agg #[ab 0,ab 0,af .empty,ae none 0 0,ab 0,ab 0,af .empty,ae none 0 0,ae none 0 0,ab 0,ab 0,af .empty,ae none 0 0]),13,192):=by kernel_rfl
theorem Hr(n:Nat)(y:Cl n):∀a∈eK n y,a.oneCell'=true:=nJ rfl
theorem sY(M n:Nat)(p:List (Tm n))(len:Nat)(ax:Hid (p.length=len))(bc:len<=8)(a:Option Addr)(pc B:Nat)(w:World)(r:Hid (fp B w n p a))(aP:B<=w.heap.size)(H:Hid (∀x∈p,∀w1,aj w w1->am 126 #[dj n x] w1 (qm (eK (M+1)) (gO (M+1)) (jD (M+1)) (BU (M+1)) (yB M n x) w1))):am 125 #[ae a len pc,.func (Fn.func 126) #[] #[]] w (kT 13 (eK (M+1)) (gO (M+1)) (jD (M+1)) (BU (M+1)) (cE (yB M n) p) w):=by
 obtain⟨aY,aq,ay,az,aA⟩:=bS Cz;have I:=ao (⟨aq,ay,az,aA⟩:_/\_/\_/\_);clear aq ay az aA;have q:=ao (dX (M+1));go_enter Tryz.func125,Tryz.ntmps125;go_wp2_with fail;go_loopw [6,13] (λv O wr=>∃(k:Nat)(aF:Value),k<=len/\O=ab k/\aF=v/\Hid (Oh (gO (M+1)) (jD (M+1)) (BU (M+1)) (eK (M+1)) 13 147 (yB M n) p w k aF wr)) (λ_ O _=>len-(intOf O).toNat)
 case atStart=>exact⟨0,_,by omega,rfl,rfl,[],[],rfl,eR.nil _,by simp[cE],eA.nil⟩
 case round=>
  obtain⟨k,v,a9,rfl,rfl,V⟩:=hrel;obtain⟨m,E,s,e,Y,W⟩:∃(m E:List (Cl (M+1))),Hid (m.length=k)/\Hid (eR (gO (M+1)) (jD (M+1)) (eK (M+1)) 13 147 0 w.heap.size m v w wr)/\Hid (cE (yB M n) (p.take k)=some E)/\Hid (eA (BU (M+1)) m E):=V.out;clear V;have N:w.heap.size<=wr.heap.size:=e.out.1.size;obtain⟨D,K,aC⟩:=e.out.slice;rw[s.out]at aC;subst aC;by_cases aU:k<len
  ·obtain⟨x,C⟩:∃x,p[k]?=some x:=⟨p[k]'(by rw[ax.out];exact aU),aH _⟩;have Z:=ao C;rcases(r.out.below (e.out.1.mono aP))with r|⟨aZ,po,rfl,be,r⟩
   ·subst r;simp at C
   obtain⟨aD,aW⟩:=r k x C;have G:Hid (∀w1,aj wr w1->am 126 #[dj n x] w1 (qm (eK (M+1)) (gO (M+1)) (jD (M+1)) (BU (M+1)) (yB M n x) w1)):=λw1 y=>H.out x (aG C) w1 (e.out.1.trans (y.mono N));obtain⟨o,A⟩:∃o,yB M n x=o:=⟨_,rfl⟩;rw[A]at G;have S:=ao A;have bf:aZ<wr.heap.size:=by omega
   clear r C A aW;cases n with
   | zero=>exact aD.elim
   | succ n=>
   obtain⟨a1,a2,a3,a4⟩:=aD;have J:dj (n+1) x=.agg #[ab x.1.1,ab x.1.2.1,af x.1.2.2,ae x.2.1.1 x.2.2.length x.2.1.2]:=rfl;rw[J]at G;clear J;have ba:(0:Int)<=(k:Int):=by omega
   have bb:(k:Int)<(len:Int):=by omega
   go_wp2_with fail;refine(G.out _ aM).mono ?_;rintro a7 h ⟨d,a0,rfl,j⟩;have F:Hid (aj wr h):=aM.trans (j.out.1.mono (by simp));have ag:wr.heap.size<=h.heap.size:=F.out.size;have ad:Value.agg (eK (M+1) d).toArray=.agg #[ab d.1.1.1.1,ab d.1.1.1.2.1,af d.1.1.1.2.2,ae d.1.1.2.1.1 d.1.1.2.2.length d.1.1.2.1.2,ab d.1.2.1.1.1,ab d.1.2.1.1.2.1,af d.1.2.1.1.2.2,ae d.1.2.1.2.1.1 d.1.2.1.2.2.length d.1.2.1.2.1.2,ae d.2.1.1 d.2.2.length d.2.1.2,ab d.1.2.2.1.1,ab d.1.2.2.1.2.1,af d.1.2.2.1.2.2,ae d.1.2.2.2.1.1 d.1.2.2.2.2.length d.1.2.2.2.1.2]:=rfl;rw[ad];clear ad G a1 a2 a3 a4;cases a0
   ·have L:Hid (kT 13 (eK (M+1)) (gO (M+1)) (jD (M+1)) (BU (M+1)) (cE (yB M (n+1)) p) w (.returned (.tuple #[ae none 0 0,.bool false])) (h.alloc (.cells #[ab d.1.1.1.1,ab d.1.1.1.2.1,af d.1.1.1.2.2,ae d.1.1.2.1.1 d.1.1.2.2.length d.1.1.2.1.2,ab d.1.2.1.1.1,ab d.1.2.1.1.2.1,af d.1.2.1.1.2.2,ae d.1.2.1.2.1.1 d.1.2.1.2.2.length d.1.2.1.2.1.2,ae d.2.1.1 d.2.2.length d.2.1.2,ab d.1.2.2.1.1,ab d.1.2.2.1.2.1,af d.1.2.2.1.2.2,ae d.1.2.2.2.1.1 d.1.2.2.2.2.length d.1.2.2.2.1.2] 147))):=by
      have ar:cE (yB M (n+1)) p=none:=lG _ p k x Z.out (by
       have y:=j.out.2.1;rw[S.out];cases o with
       | none=>rfl
       | some i=>cases y)
      have z:aj w h:=e.out.1.trans (F.out.mono N);refine⟨[],none,0,false,rfl,z.trans (aM.mono z.size),by rw[ar];rfl,⟨ak _,aE _⟩,ah rfl,ah rfl,λi l=>by rw[ar]at l;cases l⟩
    clear j e;go_wp2_with fail;exact av (v:=.tuple #[ae none 0 0,.bool false]) (by simp[results,Tryz.results125,go_sem]) rfl L.out
   ·have X:=λ(P Q:Obj)(g c:Nat)(R:World) aV aS aQ=>ao (eR.step q.out (T:=147) (w1:=(h.alloc P).alloc Q) (w2:=R) (g:=g) (c:=c) e.out (aE _) N (F.out.trans ((aM.trans (aM.mono (by simp))).mono ag)) d (q.out.mono (by simp;omega) (q.out.below (aM.trans (aM.mono (by simp))) j.out.2.2.1)) (q.out.1 _ _ _ (λb z=>ai (by simp at z;omega)) j.out.2.2.2.1) aV aS aQ);have U:=λ(P Q:Obj)=>ao (dJ e.out.2.1 (F.out.trans ((aM.trans (aM.mono (by simp)):aj h ((h.alloc P).alloc Q)).mono ag)));rw[s.out]at X U;go_wp2_with (at_builtin;refine wpList_append_lies _ rfl _ _ 136 rfl w.heap.size 147 aY _ 13 192 Tryz.underlying136 I.out.1 I.out.2.1 I.out.2.2.1 I.out.2.2.2 rfl (by decide) (ae D k K) k (m.flatMap (eK (M+1))) (by simp[Act.eval]) (U _ _).out ⟨h.heap.size+1,0,none⟩ 1 1 (eK (M+1) d) (by simp[Act.eval]) rfl (World.news_of_block (cs:= #[ab d.1.1.1.1,ab d.1.1.1.2.1,af d.1.1.1.2.2,ae d.1.1.2.1.1 d.1.1.2.2.length d.1.1.2.1.2,ab d.1.2.1.1.1,ab d.1.2.1.1.2.1,af d.1.2.1.1.2.2,ae d.1.2.1.2.1.1 d.1.2.1.2.2.length d.1.2.1.2.1.2,ae d.2.1.1 d.2.2.length d.2.1.2,ab d.1.2.2.1.1,ab d.1.2.2.1.2.1,af d.1.2.2.1.2.2,ae d.1.2.2.2.1.1 d.1.2.2.2.2.length d.1.2.2.2.1.2]) (t:=147) (fr:=(0,0)) (by have u:=aB (h.alloc (.cells #[ab d.1.1.1.1,ab d.1.1.1.2.1,af d.1.1.1.2.2,ae d.1.1.2.1.1 d.1.1.2.2.length d.1.1.2.1.2,ab d.1.2.1.1.1,ab d.1.2.1.1.2.1,af d.1.2.1.1.2.2,ae d.1.2.1.2.1.1 d.1.2.1.2.2.length d.1.2.1.2.1.2,ae d.2.1.1 d.2.2.length d.2.1.2,ab d.1.2.2.1.1,ab d.1.2.2.1.2.1,af d.1.2.2.1.2.2,ae d.1.2.2.2.1.1 d.1.2.2.2.2.length d.1.2.2.2.1.2] 147)) (.cells #[ab d.1.1.1.1,ab d.1.1.1.2.1,af d.1.1.1.2.2,ae d.1.1.2.1.1 d.1.1.2.2.length d.1.1.2.1.2,ab d.1.2.1.1.1,ab d.1.2.1.1.2.1,af d.1.2.1.1.2.2,ae d.1.2.1.2.1.1 d.1.2.1.2.2.length d.1.2.1.2.1.2,ae d.2.1.1 d.2.2.length d.2.1.2,ab d.1.2.2.1.1,ab d.1.2.2.1.2.1,af d.1.2.2.1.2.2,ae d.1.2.2.2.1.1 d.1.2.2.2.2.length d.1.2.2.2.1.2] 147);simp only[gM]at u;exact u)) (Hr _ _) (by decide) (by unfold maxLen;omega) (by omega) (by simp;omega) (h.heap.size+1+1) (by simp) ?_;intro aO aL R aw ap an bd;have aK:=X _ _ aO aL R aw ap (by simpa using an);clear aw ap an);have aI:Hid (∃i,o=some i/\BU (M+1) d i):=by
     have y:=j.out.2.1;cases o with
     | none=>cases y
     | some i=>exact⟨i,rfl,j.out.2.2.2.2 i rfl⟩
    obtain⟨i,l,aX⟩:=aI.out;have aJ:=ao (S.out.trans l);go_roundw
    case rel=>exact⟨k+1,_,by omega,by go_num,rfl,m++ [d],E++ [i],by simp[s.out],aK.out,ru _ _ _ _ Z.out _ _ Y.out aJ.out,W.out.snoc aX⟩
    case measure=>simp[intOf];omega
  ·have L:Hid (kT 13 (eK (M+1)) (gO (M+1)) (jD (M+1)) (BU (M+1)) (cE (yB M n) p) w (.returned (.tuple #[ae D k K,.bool true])) wr):=by
     have al:cE (yB M n) p=some E:=by have u:=Y.out;rw[bC (by rw[ax.out];omega)]at u;exact u
     obtain⟨a5,a6,aa,aR,aT,A⟩:=eR.lay (f:=eK (M+1)) (k:=13) q.out (λ_=>rfl) e.out;rw[s.out]at aa;injection aa with aN a8 J;subst aN J;refine⟨m,D,K,true,by rw[s.out],e.out.1,by rw[al];rfl,aR,aT,?_,λi l=>by rw[al]at l;obtain rfl:=au l;exact W.out⟩;exact(cB q.out 13 (eK (M+1)) D).1 _ _ _ (λb z=>by omega) A
   clear e;go_wp2_with fail;exact av (v:=.tuple #[ae D k K,.bool true]) (by simp[results,Tryz.results125,go_sem]) rfl L.out
theorem vz:(Tryz.prog.info? 138).map (λi=>(i.zero,i.size,i.bytes))=some (some (.agg #[af .empty,ae none 0 0]),2,40):=by kernel_rfl
theorem Kx(n:Nat)(y:Bh n):∀a∈oW n y,a.oneCell'=true:=nJ rfl
theorem pR(M n:Nat)(p:List (Tm n))(len:Nat)(ax:Hid (p.length=len))(bc:len<=8)(a:Option Addr)(pc B:Nat)(w:World)(r:Hid (fp B w n p a))(aP:B<=w.heap.size)(H:Hid (∀x∈p,∀w1,aj w w1->am 92 #[dj n x] w1 (qm (oW (M+1)) (oU (M+1)) (jC (M+1)) (xD (M+1)) (yA M n x) w1))):am 91 #[ae a len pc,.func (Fn.func 92) #[] #[]] w (kT 2 (oW (M+1)) (oU (M+1)) (jC (M+1)) (xD (M+1)) (cE (yA M n) p) w):=by
 obtain⟨aY,aq,ay,az,aA⟩:=bS vz;have I:=ao (⟨aq,ay,az,aA⟩:_/\_/\_/\_);clear aq ay az aA;have q:=ao (dN (M+1));go_enter Tryz.func91,Tryz.ntmps91;go_wp2_with fail;go_loopw [6,13] (λv O wr=>∃(k:Nat)(aF:Value),k<=len/\O=ab k/\aF=v/\Hid (Oh (oU (M+1)) (jC (M+1)) (xD (M+1)) (oW (M+1)) 2 138 (yA M n) p w k aF wr)) (λ_ O _=>len-(intOf O).toNat)
 case atStart=>exact⟨0,_,by omega,rfl,rfl,[],[],rfl,eR.nil _,by simp[cE],eA.nil⟩
 case round=>
  obtain⟨k,v,a9,rfl,rfl,V⟩:=hrel;obtain⟨m,E,s,e,Y,W⟩:∃(m E:List (Bh (M+1))),Hid (m.length=k)/\Hid (eR (oU (M+1)) (jC (M+1)) (oW (M+1)) 2 138 0 w.heap.size m v w wr)/\Hid (cE (yA M n) (p.take k)=some E)/\Hid (eA (xD (M+1)) m E):=V.out;clear V;have N:w.heap.size<=wr.heap.size:=e.out.1.size;obtain⟨D,K,aC⟩:=e.out.slice;rw[s.out]at aC;subst aC;by_cases aU:k<len
  ·obtain⟨x,C⟩:∃x,p[k]?=some x:=⟨p[k]'(by rw[ax.out];exact aU),aH _⟩;have Z:=ao C;rcases(r.out.below (e.out.1.mono aP))with r|⟨aZ,po,rfl,be,r⟩
   ·subst r;simp at C
   obtain⟨aD,aW⟩:=r k x C;have G:Hid (∀w1,aj wr w1->am 92 #[dj n x] w1 (qm (oW (M+1)) (oU (M+1)) (jC (M+1)) (xD (M+1)) (yA M n x) w1)):=λw1 y=>H.out x (aG C) w1 (e.out.1.trans (y.mono N));obtain⟨o,A⟩:∃o,yA M n x=o:=⟨_,rfl⟩;rw[A]at G;have S:=ao A;have bf:aZ<wr.heap.size:=by omega
   clear r C A aW;cases n with
   | zero=>exact aD.elim
   | succ n=>
   obtain⟨a1,a2,a3,a4⟩:=aD;have J:dj (n+1) x=.agg #[ab x.1.1,ab x.1.2.1,af x.1.2.2,ae x.2.1.1 x.2.2.length x.2.1.2]:=rfl;rw[J]at G;clear J;have ba:(0:Int)<=(k:Int):=by omega
   have bb:(k:Int)<(len:Int):=by omega
   go_wp2_with fail;refine(G.out _ aM).mono ?_;rintro a7 h ⟨d,a0,rfl,j⟩;have F:Hid (aj wr h):=aM.trans (j.out.1.mono (by simp));have ag:wr.heap.size<=h.heap.size:=F.out.size;have ad:Value.agg (oW (M+1) d).toArray=.agg #[af d.1,ae d.2.1.1 d.2.2.length d.2.1.2]:=rfl;rw[ad];clear ad G a1 a2 a3 a4;cases a0
   ·have L:Hid (kT 2 (oW (M+1)) (oU (M+1)) (jC (M+1)) (xD (M+1)) (cE (yA M (n+1)) p) w (.returned (.tuple #[ae none 0 0,.bool false])) (h.alloc (.cells #[af d.1,ae d.2.1.1 d.2.2.length d.2.1.2] 138))):=by
      have ar:cE (yA M (n+1)) p=none:=lG _ p k x Z.out (by
       have y:=j.out.2.1;rw[S.out];cases o with
       | none=>rfl
       | some i=>cases y)
      have z:aj w h:=e.out.1.trans (F.out.mono N);refine⟨[],none,0,false,rfl,z.trans (aM.mono z.size),by rw[ar];rfl,⟨ak _,aE _⟩,ah rfl,ah rfl,λi l=>by rw[ar]at l;cases l⟩
    clear j e;go_wp2_with fail;exact av (v:=.tuple #[ae none 0 0,.bool false]) (by simp[results,Tryz.results91,go_sem]) rfl L.out
   ·have X:=λ(P Q:Obj)(g c:Nat)(R:World) aV aS aQ=>ao (eR.step q.out (T:=138) (w1:=(h.alloc P).alloc Q) (w2:=R) (g:=g) (c:=c) e.out (aE _) N (F.out.trans ((aM.trans (aM.mono (by simp))).mono ag)) d (q.out.mono (by simp;omega) (q.out.below (aM.trans (aM.mono (by simp))) j.out.2.2.1)) (q.out.1 _ _ _ (λb z=>ai (by simp at z;omega)) j.out.2.2.2.1) aV aS aQ);have U:=λ(P Q:Obj)=>ao (dJ e.out.2.1 (F.out.trans ((aM.trans (aM.mono (by simp)):aj h ((h.alloc P).alloc Q)).mono ag)));rw[s.out]at X U;go_wp2_with (at_builtin;refine wpList_append_lies _ rfl _ _ 22 rfl w.heap.size 138 aY _ 2 40 Tryz.underlying22 I.out.1 I.out.2.1 I.out.2.2.1 I.out.2.2.2 rfl (by decide) (ae D k K) k (m.flatMap (oW (M+1))) (by simp[Act.eval]) (U _ _).out ⟨h.heap.size+1,0,none⟩ 1 1 (oW (M+1) d) (by simp[Act.eval]) rfl (World.news_of_block (cs:= #[af d.1,ae d.2.1.1 d.2.2.length d.2.1.2]) (t:=138) (fr:=(0,0)) (by have u:=aB (h.alloc (.cells #[af d.1,ae d.2.1.1 d.2.2.length d.2.1.2] 138)) (.cells #[af d.1,ae d.2.1.1 d.2.2.length d.2.1.2] 138);simp only[gM]at u;exact u)) (Kx _ _) (by decide) (by unfold maxLen;omega) (by omega) (by simp;omega) (h.heap.size+1+1) (by simp) ?_;intro aO aL R aw ap an bd;have aK:=X _ _ aO aL R aw ap (by simpa using an);clear aw ap an);have aI:Hid (∃i,o=some i/\xD (M+1) d i):=by
     have y:=j.out.2.1;cases o with
     | none=>cases y
     | some i=>exact⟨i,rfl,j.out.2.2.2.2 i rfl⟩
    obtain⟨i,l,aX⟩:=aI.out;have aJ:=ao (S.out.trans l);go_roundw
    case rel=>exact⟨k+1,_,by omega,by go_num,rfl,m++ [d],E++ [i],by simp[s.out],aK.out,ru _ _ _ _ Z.out _ _ Y.out aJ.out,W.out.snoc aX⟩
    case measure=>simp[intOf];omega
  ·have L:Hid (kT 2 (oW (M+1)) (oU (M+1)) (jC (M+1)) (xD (M+1)) (cE (yA M n) p) w (.returned (.tuple #[ae D k K,.bool true])) wr):=by
     have al:cE (yA M n) p=some E:=by have u:=Y.out;rw[bC (by rw[ax.out];omega)]at u;exact u
     obtain⟨a5,a6,aa,aR,aT,A⟩:=eR.lay (f:=oW (M+1)) (k:=2) q.out (λ_=>rfl) e.out;rw[s.out]at aa;injection aa with aN a8 J;subst aN J;refine⟨m,D,K,true,by rw[s.out],e.out.1,by rw[al];rfl,aR,aT,?_,λi l=>by rw[al]at l;obtain rfl:=au l;exact W.out⟩;exact(cB q.out 2 (oW (M+1)) D).1 _ _ _ (λb z=>by omega) A
   clear e;go_wp2_with fail;exact av (v:=.tuple #[ae D k K,.bool true]) (by simp[results,Tryz.results91,go_sem]) rfl L.out
end Go.Proofs.YtckamaoibonjcaaGreat
