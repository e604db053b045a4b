/- What is proved here: code.readAll at acts, clauses and behaviours, from what the reader of one does: what it returns is a new row of what is read, or false where one can't be. Condition: at most 8 terms. -/
import Derived.Test.YtmmahddlcldmiaaGreatDoorT22
namespace Go.Proofs.YtmmahddlcldmiaaGreatDoor
open Go.RowKit Go.Proofs.Tryz
set_option maxHeartbeats 4000000
set_option maxRecDepth 100000
theorem ot{l:List Value}(b:l.all (λa=>a.oneCell')=true):∀a∈l,a.oneCell'=true:=λa c=>by
 rw[bZ]at b;exact b a c
def P4{a:Type}{n:Nat}(d:Nat->World->a->Prop)(e:(Nat->Prop)->a->Prop)(S:a->a->Prop)(f:a->List Value)(h:Nat)(T:TypeId)(g:Tm n->Option a)(p:List (Tm n))(w:World)(k:Nat)(v:Value)(wr:World):Prop:=
 ∃(b c:List a),b.length=k/\fi d e f h T 0 w.heap.size b v w wr/\cG g (p.take k)=some c/\eQ S b c
theorem fi.slice{b:Type}{d:Nat->World->b->Prop}{e:(Nat->Prop)->b->Prop}{f:b->List Value}{k:Nat}{T:TypeId}{B base:Nat}{xs:List b}{v:Value}{w0 wr:World}(g:fi d e f k T B base xs v w0 wr):∃a c,v=ae a xs.length c:=by
 rcases g.2.1.2 with⟨rfl,h⟩|⟨j,cap,i,rfl,_⟩
 ·exact⟨none,0,by rw[h]⟩
 ·exact⟨_,_,rfl⟩
theorem MK:(Tryz.prog.info? 208).map (λi=>(i.zero,i.size,i.bytes))=some (some (.agg #[ab 0,ab 0,ab 0,af .empty,ae none 0 0,ab 0,ab 0,af .empty,ae none 0 0,af .empty,ab 0]),11,144):=by kernel_rfl
theorem Jh(n:Nat)(y:Ac n):∀a∈fZ n y,a.oneCell'=true:=ot rfl
theorem zU(M n:Nat)(p:List (Tm n))(len:Nat)(ax:Hid (p.length=len))(bc:len<=8)(a:Option Addr)(pc B:Nat)(w:World)(r:Hid (fC B w n p a))(aP:B<=w.heap.size)(H:Hid (∀x∈p,∀w1,aj w w1->am 118 #[df n x] w1 (qN (fZ (M+1)) (iA (M+1)) (lT (M+1)) (CW (M+1)) (sG M n x) w1))):am 117 #[ae a len pc,.func (Fn.func 118) #[] #[]] w (lA 11 (fZ (M+1)) (iA (M+1)) (lT (M+1)) (CW (M+1)) (cG (sG M n) p) w):=by
 obtain⟨aY,ap,ay,az,aA⟩:=bP MK;have I:=aq (⟨ap,ay,az,aA⟩:_/\_/\_/\_);clear ap ay az aA;have q:=aq (fD (M+1));go_enter func117,ntmps117;go_wp2_with fail;go_loopw [6,13] (λv O wr=>∃(k:Nat)(aD:Value),k<=len/\O=ab k/\aD=v/\Hid (P4 (iA (M+1)) (lT (M+1)) (CW (M+1)) (fZ (M+1)) 11 208 (sG M n) p w k aD wr)) (λ_ O _=>len-(intOf O).toNat)
 case atStart=>exact⟨0,_,by omega,rfl,rfl,[],[],rfl,fi.nil _,by simp[cG],eQ.nil⟩
 case round=>
  obtain⟨k,v,a9,rfl,rfl,V⟩:=hrel;obtain⟨m,E,s,e,Y,W⟩:∃(m E:List (Ac (M+1))),Hid (m.length=k)/\Hid (fi (iA (M+1)) (lT (M+1)) (fZ (M+1)) 11 208 0 w.heap.size m v w wr)/\Hid (cG (sG M n) (p.take k)=some E)/\Hid (eQ (CW (M+1)) m E):=V.out;clear V;have N:w.heap.size<=wr.heap.size:=e.out.1.size;obtain⟨D,K,aB⟩:=e.out.slice;rw[s.out]at aB;subst aB;by_cases aU:k<len
  ·obtain⟨x,C⟩:∃x,p[k]?=some x:=⟨p[k]'(by rw[ax.out];exact aU),aG _⟩;have Z:=aq C;rcases(r.out.below (e.out.1.mono aP))with r|⟨aZ,po,rfl,be,r⟩
   ·subst r;simp at C
   obtain⟨aC,aW⟩:=r k x C;have G:Hid (∀w1,aj wr w1->am 118 #[df n x] w1 (qN (fZ (M+1)) (iA (M+1)) (lT (M+1)) (CW (M+1)) (sG M n x) w1)):=λw1 y=>H.out x (aH C) w1 (e.out.1.trans (y.mono N));obtain⟨o,A⟩:∃o,sG M n x=o:=⟨_,rfl⟩;rw[A]at G;have S:=aq A;have bf:aZ<wr.heap.size:=by omega
   clear r C A aW;cases n with
   | zero=>exact aC.elim
   | succ n=>
   obtain⟨a1,a2,a3,a4⟩:=aC;have J:df (n+1) x=.agg #[ab x.1.1,ab x.1.2.1,af x.1.2.2,ae x.2.1.1 x.2.2.length x.2.1.2]:=rfl;rw[J]at G;clear J;have ba:(0:Int)<=(k:Int):=by omega
   have bb:(k:Int)<(len:Int):=by omega
   go_wp2_with fail;refine(G.out _ aN).mono ?_;rintro a7 h ⟨d,a0,rfl,j⟩;have F:Hid (aj wr h):=aN.trans (j.out.1.mono (by simp));have ag:wr.heap.size<=h.heap.size:=F.out.size;have ad:Value.agg (fZ (M+1) d).toArray=.agg #[ab d.1,ab d.2.1.1.1.1,ab d.2.1.1.1.2.1,af d.2.1.1.1.2.2,ae d.2.1.1.2.1.1 d.2.1.1.2.2.length d.2.1.1.2.1.2,ab d.2.1.2.1.1,ab d.2.1.2.1.2.1,af d.2.1.2.1.2.2,ae d.2.1.2.2.1.1 d.2.1.2.2.2.length d.2.1.2.2.1.2,af d.2.2.1,ab d.2.2.2]:=rfl;rw[ad];clear ad G a1 a2 a3 a4;cases a0
   ·have L:Hid (lA 11 (fZ (M+1)) (iA (M+1)) (lT (M+1)) (CW (M+1)) (cG (sG M (n+1)) p) w (.returned (.tuple #[ae none 0 0,.bool false])) (h.alloc (.cells #[ab d.1,ab d.2.1.1.1.1,ab d.2.1.1.1.2.1,af d.2.1.1.1.2.2,ae d.2.1.1.2.1.1 d.2.1.1.2.2.length d.2.1.1.2.1.2,ab d.2.1.2.1.1,ab d.2.1.2.1.2.1,af d.2.1.2.1.2.2,ae d.2.1.2.2.1.1 d.2.1.2.2.2.length d.2.1.2.2.1.2,af d.2.2.1,ab d.2.2.2] 208))):=by
      have ar:cG (sG M (n+1)) p=none:=lX _ p k x Z.out (by
       have y:=j.out.2.1;rw[S.out];cases o with
       | none=>rfl
       | some i=>cases y)
      have z:aj w h:=e.out.1.trans (F.out.mono N);refine⟨[],none,0,false,rfl,z.trans (aN.mono z.size),by rw[ar];rfl,⟨ak _,aI _⟩,ah rfl,ah rfl,λi l=>by rw[ar]at l;cases l⟩
    clear j e;go_wp2_with fail;exact av (v:=.tuple #[ae none 0 0,.bool false]) (by simp[results,results117,go_sem]) rfl L.out
   ·have X:=λ(P Q:Obj)(g c:Nat)(R:World) aV aS aQ=>aq (fi.step q.out (T:=208) (w1:=(h.alloc P).alloc Q) (w2:=R) (g:=g) (c:=c) e.out (aI _) N (F.out.trans ((aN.trans (aN.mono (by simp))).mono ag)) d (q.out.mono (by simp;omega) (q.out.below (aN.trans (aN.mono (by simp))) j.out.2.2.1)) (q.out.1 _ _ _ (λb z=>ai (by simp at z;omega)) j.out.2.2.2.1) aV aS aQ);have U:=λ(P Q:Obj)=>aq (dS e.out.2.1 (F.out.trans ((aN.trans (aN.mono (by simp)):aj h ((h.alloc P).alloc Q)).mono ag)));rw[s.out]at X U;go_wp2_with (at_builtin;refine wpList_append_lies _ rfl _ _ 169 rfl w.heap.size 208 aY _ 11 144 underlying169 I.out.1 I.out.2.1 I.out.2.2.1 I.out.2.2.2 rfl (by decide) (ae D k K) k (m.flatMap (fZ (M+1))) (by simp[Act.eval]) (U _ _).out ⟨h.heap.size+1,0,none⟩ 1 1 (fZ (M+1) d) (by simp[Act.eval]) rfl (World.news_of_block (cs:= #[ab d.1,ab d.2.1.1.1.1,ab d.2.1.1.1.2.1,af d.2.1.1.1.2.2,ae d.2.1.1.2.1.1 d.2.1.1.2.2.length d.2.1.1.2.1.2,ab d.2.1.2.1.1,ab d.2.1.2.1.2.1,af d.2.1.2.1.2.2,ae d.2.1.2.2.1.1 d.2.1.2.2.2.length d.2.1.2.2.1.2,af d.2.2.1,ab d.2.2.2]) (t:=208) (fr:=(0,0)) (by have u:=aE (h.alloc (.cells #[ab d.1,ab d.2.1.1.1.1,ab d.2.1.1.1.2.1,af d.2.1.1.1.2.2,ae d.2.1.1.2.1.1 d.2.1.1.2.2.length d.2.1.1.2.1.2,ab d.2.1.2.1.1,ab d.2.1.2.1.2.1,af d.2.1.2.1.2.2,ae d.2.1.2.2.1.1 d.2.1.2.2.2.length d.2.1.2.2.1.2,af d.2.2.1,ab d.2.2.2] 208)) (.cells #[ab d.1,ab d.2.1.1.1.1,ab d.2.1.1.1.2.1,af d.2.1.1.1.2.2,ae d.2.1.1.2.1.1 d.2.1.1.2.2.length d.2.1.1.2.1.2,ab d.2.1.2.1.1,ab d.2.1.2.1.2.1,af d.2.1.2.1.2.2,ae d.2.1.2.2.1.1 d.2.1.2.2.2.length d.2.1.2.2.1.2,af d.2.2.1,ab d.2.2.2] 208);simp only[iy]at u;exact u)) (Jh _ _) (by decide) (by unfold maxLen;omega) (by omega) (by simp;omega) (h.heap.size+1+1) (by simp) ?_;intro aO aL R au ao an bd;have aK:=X _ _ aO aL R au ao (by simpa using an);clear au ao an);have aF:Hid (∃i,o=some i/\CW (M+1) d i):=by
     have y:=j.out.2.1;cases o with
     | none=>cases y
     | some i=>exact⟨i,rfl,j.out.2.2.2.2 i rfl⟩
    obtain⟨i,l,aX⟩:=aF.out;have aJ:=aq (S.out.trans l);go_roundw
    case rel=>exact⟨k+1,_,by omega,by go_num,rfl,m++ [d],E++ [i],by simp[s.out],aK.out,r7 _ _ _ _ Z.out _ _ Y.out aJ.out,W.out.snoc aX⟩
    case measure=>simp[intOf];omega
  ·have L:Hid (lA 11 (fZ (M+1)) (iA (M+1)) (lT (M+1)) (CW (M+1)) (cG (sG M n) p) w (.returned (.tuple #[ae D k K,.bool true])) wr):=by
     have al:cG (sG M n) p=some E:=by have u:=Y.out;rw[bu (by rw[ax.out];omega)]at u;exact u
     obtain⟨a5,a6,aa,aR,aT,A⟩:=fi.lay (f:=fZ (M+1)) (k:=11) q.out (λ_=>rfl) e.out;rw[s.out]at aa;injection aa with aM a8 J;subst aM J;refine⟨m,D,K,true,by rw[s.out],e.out.1,by rw[al];rfl,aR,aT,?_,λi l=>by rw[al]at l;obtain rfl:=aw l;exact W.out⟩;exact(cq q.out 11 (fZ (M+1)) D).1 _ _ _ (λb z=>by omega) A
   clear e;go_wp2_with fail;exact av (v:=.tuple #[ae D k K,.bool true]) (by simp[results,results117,go_sem]) rfl L.out
theorem Dv:(Tryz.prog.info? 171).map (λi=>(i.zero,i.size,i.bytes))=some (some (.agg #[ab 0,ab 0,af .empty,ae none 0 0,ab 0,ab 0,af .empty,ae none 0 0,ae none 0 0,ab 0,ab 0,af .empty,ae none 0 0]),13,192):=by kernel_rfl
theorem Jy(n:Nat)(y:Cl n):∀a∈eZ n y,a.oneCell'=true:=ot rfl
theorem tO(M n:Nat)(p:List (Tm n))(len:Nat)(ax:Hid (p.length=len))(bc:len<=8)(a:Option Addr)(pc B:Nat)(w:World)(r:Hid (fC B w n p a))(aP:B<=w.heap.size)(H:Hid (∀x∈p,∀w1,aj w w1->am 95 #[df n x] w1 (qN (eZ (M+1)) (gY (M+1)) (jR (M+1)) (CS (M+1)) (zN M n x) w1))):am 94 #[ae a len pc,.func (Fn.func 95) #[] #[]] w (lA 13 (eZ (M+1)) (gY (M+1)) (jR (M+1)) (CS (M+1)) (cG (zN M n) p) w):=by
 obtain⟨aY,ap,ay,az,aA⟩:=bP Dv;have I:=aq (⟨ap,ay,az,aA⟩:_/\_/\_/\_);clear ap ay az aA;have q:=aq (en (M+1));go_enter func94,ntmps94;go_wp2_with fail;go_loopw [6,13] (λv O wr=>∃(k:Nat)(aD:Value),k<=len/\O=ab k/\aD=v/\Hid (P4 (gY (M+1)) (jR (M+1)) (CS (M+1)) (eZ (M+1)) 13 171 (zN M n) p w k aD wr)) (λ_ O _=>len-(intOf O).toNat)
 case atStart=>exact⟨0,_,by omega,rfl,rfl,[],[],rfl,fi.nil _,by simp[cG],eQ.nil⟩
 case round=>
  obtain⟨k,v,a9,rfl,rfl,V⟩:=hrel;obtain⟨m,E,s,e,Y,W⟩:∃(m E:List (Cl (M+1))),Hid (m.length=k)/\Hid (fi (gY (M+1)) (jR (M+1)) (eZ (M+1)) 13 171 0 w.heap.size m v w wr)/\Hid (cG (zN M n) (p.take k)=some E)/\Hid (eQ (CS (M+1)) m E):=V.out;clear V;have N:w.heap.size<=wr.heap.size:=e.out.1.size;obtain⟨D,K,aB⟩:=e.out.slice;rw[s.out]at aB;subst aB;by_cases aU:k<len
  ·obtain⟨x,C⟩:∃x,p[k]?=some x:=⟨p[k]'(by rw[ax.out];exact aU),aG _⟩;have Z:=aq C;rcases(r.out.below (e.out.1.mono aP))with r|⟨aZ,po,rfl,be,r⟩
   ·subst r;simp at C
   obtain⟨aC,aW⟩:=r k x C;have G:Hid (∀w1,aj wr w1->am 95 #[df n x] w1 (qN (eZ (M+1)) (gY (M+1)) (jR (M+1)) (CS (M+1)) (zN M n x) w1)):=λw1 y=>H.out x (aH C) w1 (e.out.1.trans (y.mono N));obtain⟨o,A⟩:∃o,zN M n x=o:=⟨_,rfl⟩;rw[A]at G;have S:=aq A;have bf:aZ<wr.heap.size:=by omega
   clear r C A aW;cases n with
   | zero=>exact aC.elim
   | succ n=>
   obtain⟨a1,a2,a3,a4⟩:=aC;have J:df (n+1) x=.agg #[ab x.1.1,ab x.1.2.1,af x.1.2.2,ae x.2.1.1 x.2.2.length x.2.1.2]:=rfl;rw[J]at G;clear J;have ba:(0:Int)<=(k:Int):=by omega
   have bb:(k:Int)<(len:Int):=by omega
   go_wp2_with fail;refine(G.out _ aN).mono ?_;rintro a7 h ⟨d,a0,rfl,j⟩;have F:Hid (aj wr h):=aN.trans (j.out.1.mono (by simp));have ag:wr.heap.size<=h.heap.size:=F.out.size;have ad:Value.agg (eZ (M+1) d).toArray=.agg #[ab d.1.1.1.1,ab d.1.1.1.2.1,af d.1.1.1.2.2,ae d.1.1.2.1.1 d.1.1.2.2.length d.1.1.2.1.2,ab d.1.2.1.1.1,ab d.1.2.1.1.2.1,af d.1.2.1.1.2.2,ae d.1.2.1.2.1.1 d.1.2.1.2.2.length d.1.2.1.2.1.2,ae d.2.1.1 d.2.2.length d.2.1.2,ab d.1.2.2.1.1,ab d.1.2.2.1.2.1,af d.1.2.2.1.2.2,ae d.1.2.2.2.1.1 d.1.2.2.2.2.length d.1.2.2.2.1.2]:=rfl;rw[ad];clear ad G a1 a2 a3 a4;cases a0
   ·have L:Hid (lA 13 (eZ (M+1)) (gY (M+1)) (jR (M+1)) (CS (M+1)) (cG (zN M (n+1)) p) w (.returned (.tuple #[ae none 0 0,.bool false])) (h.alloc (.cells #[ab d.1.1.1.1,ab d.1.1.1.2.1,af d.1.1.1.2.2,ae d.1.1.2.1.1 d.1.1.2.2.length d.1.1.2.1.2,ab d.1.2.1.1.1,ab d.1.2.1.1.2.1,af d.1.2.1.1.2.2,ae d.1.2.1.2.1.1 d.1.2.1.2.2.length d.1.2.1.2.1.2,ae d.2.1.1 d.2.2.length d.2.1.2,ab d.1.2.2.1.1,ab d.1.2.2.1.2.1,af d.1.2.2.1.2.2,ae d.1.2.2.2.1.1 d.1.2.2.2.2.length d.1.2.2.2.1.2] 171))):=by
      have ar:cG (zN M (n+1)) p=none:=lX _ p k x Z.out (by
       have y:=j.out.2.1;rw[S.out];cases o with
       | none=>rfl
       | some i=>cases y)
      have z:aj w h:=e.out.1.trans (F.out.mono N);refine⟨[],none,0,false,rfl,z.trans (aN.mono z.size),by rw[ar];rfl,⟨ak _,aI _⟩,ah rfl,ah rfl,λi l=>by rw[ar]at l;cases l⟩
    clear j e;go_wp2_with fail;exact av (v:=.tuple #[ae none 0 0,.bool false]) (by simp[results,results94,go_sem]) rfl L.out
   ·have X:=λ(P Q:Obj)(g c:Nat)(R:World) aV aS aQ=>aq (fi.step q.out (T:=171) (w1:=(h.alloc P).alloc Q) (w2:=R) (g:=g) (c:=c) e.out (aI _) N (F.out.trans ((aN.trans (aN.mono (by simp))).mono ag)) d (q.out.mono (by simp;omega) (q.out.below (aN.trans (aN.mono (by simp))) j.out.2.2.1)) (q.out.1 _ _ _ (λb z=>ai (by simp at z;omega)) j.out.2.2.2.1) aV aS aQ);have U:=λ(P Q:Obj)=>aq (dS e.out.2.1 (F.out.trans ((aN.trans (aN.mono (by simp)):aj h ((h.alloc P).alloc Q)).mono ag)));rw[s.out]at X U;go_wp2_with (at_builtin;refine wpList_append_lies _ rfl _ _ 108 rfl w.heap.size 171 aY _ 13 192 underlying108 I.out.1 I.out.2.1 I.out.2.2.1 I.out.2.2.2 rfl (by decide) (ae D k K) k (m.flatMap (eZ (M+1))) (by simp[Act.eval]) (U _ _).out ⟨h.heap.size+1,0,none⟩ 1 1 (eZ (M+1) d) (by simp[Act.eval]) rfl (World.news_of_block (cs:= #[ab d.1.1.1.1,ab d.1.1.1.2.1,af d.1.1.1.2.2,ae d.1.1.2.1.1 d.1.1.2.2.length d.1.1.2.1.2,ab d.1.2.1.1.1,ab d.1.2.1.1.2.1,af d.1.2.1.1.2.2,ae d.1.2.1.2.1.1 d.1.2.1.2.2.length d.1.2.1.2.1.2,ae d.2.1.1 d.2.2.length d.2.1.2,ab d.1.2.2.1.1,ab d.1.2.2.1.2.1,af d.1.2.2.1.2.2,ae d.1.2.2.2.1.1 d.1.2.2.2.2.length d.1.2.2.2.1.2]) (t:=171) (fr:=(0,0)) (by have u:=aE (h.alloc (.cells #[ab d.1.1.1.1,ab d.1.1.1.2.1,af d.1.1.1.2.2,ae d.1.1.2.1.1 d.1.1.2.2.length d.1.1.2.1.2,ab d.1.2.1.1.1,ab d.1.2.1.1.2.1,af d.1.2.1.1.2.2,ae d.1.2.1.2.1.1 d.1.2.1.2.2.length d.1.2.1.2.1.2,ae d.2.1.1 d.2.2.length d.2.1.2,ab d.1.2.2.1.1,ab d.1.2.2.1.2.1,af d.1.2.2.1.2.2,ae d.1.2.2.2.1.1 d.1.2.2.2.2.length d.1.2.2.2.1.2] 171)) (.cells #[ab d.1.1.1.1,ab d.1.1.1.2.1,af d.1.1.1.2.2,ae d.1.1.2.1.1 d.1.1.2.2.length d.1.1.2.1.2,ab d.1.2.1.1.1,ab d.1.2.1.1.2.1,af d.1.2.1.1.2.2,ae d.1.2.1.2.1.1 d.1.2.1.2.2.length d.1.2.1.2.1.2,ae d.2.1.1 d.2.2.length d.2.1.2,ab d.1.2.2.1.1,ab d.1.2.2.1.2.1,af d.1.2.2.1.2.2,ae d.1.2.2.2.1.1 d.1.2.2.2.2.length d.1.2.2.2.1.2] 171);simp only[iy]at u;exact u)) (Jy _ _) (by decide) (by unfold maxLen;omega) (by omega) (by simp;omega) (h.heap.size+1+1) (by simp) ?_;intro aO aL R au ao an bd;have aK:=X _ _ aO aL R au ao (by simpa using an);clear au ao an);have aF:Hid (∃i,o=some i/\CS (M+1) d i):=by
     have y:=j.out.2.1;cases o with
     | none=>cases y
     | some i=>exact⟨i,rfl,j.out.2.2.2.2 i rfl⟩
    obtain⟨i,l,aX⟩:=aF.out;have aJ:=aq (S.out.trans l);go_roundw
    case rel=>exact⟨k+1,_,by omega,by go_num,rfl,m++ [d],E++ [i],by simp[s.out],aK.out,r7 _ _ _ _ Z.out _ _ Y.out aJ.out,W.out.snoc aX⟩
    case measure=>simp[intOf];omega
  ·have L:Hid (lA 13 (eZ (M+1)) (gY (M+1)) (jR (M+1)) (CS (M+1)) (cG (zN M n) p) w (.returned (.tuple #[ae D k K,.bool true])) wr):=by
     have al:cG (zN M n) p=some E:=by have u:=Y.out;rw[bu (by rw[ax.out];omega)]at u;exact u
     obtain⟨a5,a6,aa,aR,aT,A⟩:=fi.lay (f:=eZ (M+1)) (k:=13) q.out (λ_=>rfl) e.out;rw[s.out]at aa;injection aa with aM a8 J;subst aM J;refine⟨m,D,K,true,by rw[s.out],e.out.1,by rw[al];rfl,aR,aT,?_,λi l=>by rw[al]at l;obtain rfl:=aw l;exact W.out⟩;exact(cq q.out 13 (eZ (M+1)) D).1 _ _ _ (λb z=>by omega) A
   clear e;go_wp2_with fail;exact av (v:=.tuple #[ae D k K,.bool true]) (by simp[results,results94,go_sem]) rfl L.out
theorem wJ:(Tryz.prog.info? 110).map (λi=>(i.zero,i.size,i.bytes))=some (some (.agg #[af .empty,ae none 0 0]),2,40):=by kernel_rfl
theorem Mf(n:Nat)(y:Bh n):∀a∈oI n y,a.oneCell'=true:=ot rfl
theorem qu(M n:Nat)(p:List (Tm n))(len:Nat)(ax:Hid (p.length=len))(bc:len<=8)(a:Option Addr)(pc B:Nat)(w:World)(r:Hid (fC B w n p a))(aP:B<=w.heap.size)(H:Hid (∀x∈p,∀w1,aj w w1->am 66 #[df n x] w1 (qN (oI (M+1)) (pC (M+1)) (jQ (M+1)) (yN (M+1)) (zM M n x) w1))):am 65 #[ae a len pc,.func (Fn.func 66) #[] #[]] w (lA 2 (oI (M+1)) (pC (M+1)) (jQ (M+1)) (yN (M+1)) (cG (zM M n) p) w):=by
 obtain⟨aY,ap,ay,az,aA⟩:=bP wJ;have I:=aq (⟨ap,ay,az,aA⟩:_/\_/\_/\_);clear ap ay az aA;have q:=aq (dP (M+1));go_enter func65,ntmps65;go_wp2_with fail;go_loopw [6,13] (λv O wr=>∃(k:Nat)(aD:Value),k<=len/\O=ab k/\aD=v/\Hid (P4 (pC (M+1)) (jQ (M+1)) (yN (M+1)) (oI (M+1)) 2 110 (zM M n) p w k aD wr)) (λ_ O _=>len-(intOf O).toNat)
 case atStart=>exact⟨0,_,by omega,rfl,rfl,[],[],rfl,fi.nil _,by simp[cG],eQ.nil⟩
 case round=>
  obtain⟨k,v,a9,rfl,rfl,V⟩:=hrel;obtain⟨m,E,s,e,Y,W⟩:∃(m E:List (Bh (M+1))),Hid (m.length=k)/\Hid (fi (pC (M+1)) (jQ (M+1)) (oI (M+1)) 2 110 0 w.heap.size m v w wr)/\Hid (cG (zM M n) (p.take k)=some E)/\Hid (eQ (yN (M+1)) m E):=V.out;clear V;have N:w.heap.size<=wr.heap.size:=e.out.1.size;obtain⟨D,K,aB⟩:=e.out.slice;rw[s.out]at aB;subst aB;by_cases aU:k<len
  ·obtain⟨x,C⟩:∃x,p[k]?=some x:=⟨p[k]'(by rw[ax.out];exact aU),aG _⟩;have Z:=aq C;rcases(r.out.below (e.out.1.mono aP))with r|⟨aZ,po,rfl,be,r⟩
   ·subst r;simp at C
   obtain⟨aC,aW⟩:=r k x C;have G:Hid (∀w1,aj wr w1->am 66 #[df n x] w1 (qN (oI (M+1)) (pC (M+1)) (jQ (M+1)) (yN (M+1)) (zM M n x) w1)):=λw1 y=>H.out x (aH C) w1 (e.out.1.trans (y.mono N));obtain⟨o,A⟩:∃o,zM M n x=o:=⟨_,rfl⟩;rw[A]at G;have S:=aq A;have bf:aZ<wr.heap.size:=by omega
   clear r C A aW;cases n with
   | zero=>exact aC.elim
   | succ n=>
   obtain⟨a1,a2,a3,a4⟩:=aC;have J:df (n+1) x=.agg #[ab x.1.1,ab x.1.2.1,af x.1.2.2,ae x.2.1.1 x.2.2.length x.2.1.2]:=rfl;rw[J]at G;clear J;have ba:(0:Int)<=(k:Int):=by omega
   have bb:(k:Int)<(len:Int):=by omega
   go_wp2_with fail;refine(G.out _ aN).mono ?_;rintro a7 h ⟨d,a0,rfl,j⟩;have F:Hid (aj wr h):=aN.trans (j.out.1.mono (by simp));have ag:wr.heap.size<=h.heap.size:=F.out.size;have ad:Value.agg (oI (M+1) d).toArray=.agg #[af d.1,ae d.2.1.1 d.2.2.length d.2.1.2]:=rfl;rw[ad];clear ad G a1 a2 a3 a4;cases a0
   ·have L:Hid (lA 2 (oI (M+1)) (pC (M+1)) (jQ (M+1)) (yN (M+1)) (cG (zM M (n+1)) p) w (.returned (.tuple #[ae none 0 0,.bool false])) (h.alloc (.cells #[af d.1,ae d.2.1.1 d.2.2.length d.2.1.2] 110))):=by
      have ar:cG (zM M (n+1)) p=none:=lX _ p k x Z.out (by
       have y:=j.out.2.1;rw[S.out];cases o with
       | none=>rfl
       | some i=>cases y)
      have z:aj w h:=e.out.1.trans (F.out.mono N);refine⟨[],none,0,false,rfl,z.trans (aN.mono z.size),by rw[ar];rfl,⟨ak _,aI _⟩,ah rfl,ah rfl,λi l=>by rw[ar]at l;cases l⟩
    clear j e;go_wp2_with fail;exact av (v:=.tuple #[ae none 0 0,.bool false]) (by simp[results,results65,go_sem]) rfl L.out
   ·have X:=λ(P Q:Obj)(g c:Nat)(R:World) aV aS aQ=>aq (fi.step q.out (T:=110) (w1:=(h.alloc P).alloc Q) (w2:=R) (g:=g) (c:=c) e.out (aI _) N (F.out.trans ((aN.trans (aN.mono (by simp))).mono ag)) d (q.out.mono (by simp;omega) (q.out.below (aN.trans (aN.mono (by simp))) j.out.2.2.1)) (q.out.1 _ _ _ (λb z=>ai (by simp at z;omega)) j.out.2.2.2.1) aV aS aQ);have U:=λ(P Q:Obj)=>aq (dS e.out.2.1 (F.out.trans ((aN.trans (aN.mono (by simp)):aj h ((h.alloc P).alloc Q)).mono ag)));rw[s.out]at X U;go_wp2_with (at_builtin;refine wpList_append_lies _ rfl _ _ 22 rfl w.heap.size 110 aY _ 2 40 underlying22 I.out.1 I.out.2.1 I.out.2.2.1 I.out.2.2.2 rfl (by decide) (ae D k K) k (m.flatMap (oI (M+1))) (by simp[Act.eval]) (U _ _).out ⟨h.heap.size+1,0,none⟩ 1 1 (oI (M+1) d) (by simp[Act.eval]) rfl (World.news_of_block (cs:= #[af d.1,ae d.2.1.1 d.2.2.length d.2.1.2]) (t:=110) (fr:=(0,0)) (by have u:=aE (h.alloc (.cells #[af d.1,ae d.2.1.1 d.2.2.length d.2.1.2] 110)) (.cells #[af d.1,ae d.2.1.1 d.2.2.length d.2.1.2] 110);simp only[iy]at u;exact u)) (Mf _ _) (by decide) (by unfold maxLen;omega) (by omega) (by simp;omega) (h.heap.size+1+1) (by simp) ?_;intro aO aL R au ao an bd;have aK:=X _ _ aO aL R au ao (by simpa using an);clear au ao an);have aF:Hid (∃i,o=some i/\yN (M+1) d i):=by
     have y:=j.out.2.1;cases o with
     | none=>cases y
     | some i=>exact⟨i,rfl,j.out.2.2.2.2 i rfl⟩
    obtain⟨i,l,aX⟩:=aF.out;have aJ:=aq (S.out.trans l);go_roundw
    case rel=>exact⟨k+1,_,by omega,by go_num,rfl,m++ [d],E++ [i],by simp[s.out],aK.out,r7 _ _ _ _ Z.out _ _ Y.out aJ.out,W.out.snoc aX⟩
    case measure=>simp[intOf];omega
  ·have L:Hid (lA 2 (oI (M+1)) (pC (M+1)) (jQ (M+1)) (yN (M+1)) (cG (zM M n) p) w (.returned (.tuple #[ae D k K,.bool true])) wr):=by
     have al:cG (zM M n) p=some E:=by have u:=Y.out;rw[bu (by rw[ax.out];omega)]at u;exact u
     obtain⟨a5,a6,aa,aR,aT,A⟩:=fi.lay (f:=oI (M+1)) (k:=2) q.out (λ_=>rfl) e.out;rw[s.out]at aa;injection aa with aM a8 J;subst aM J;refine⟨m,D,K,true,by rw[s.out],e.out.1,by rw[al];rfl,aR,aT,?_,λi l=>by rw[al]at l;obtain rfl:=aw l;exact W.out⟩;exact(cq q.out 2 (oI (M+1)) D).1 _ _ _ (λb z=>by omega) A
   clear e;go_wp2_with fail;exact av (v:=.tuple #[ae D k K,.bool true]) (by simp[results,results65,go_sem]) rfl L.out
end Go.Proofs.YtmmahddlcldmiaaGreatDoor
