/- What is proved here: code.readAll at acts, clauses and behaviours, from what the reader of one does: what it returns is a new row of what is read, or false where one can't be. Condition: at most 8 terms. -/
import Derived.Test.YtckamaoibonjcaaGreatG33
namespace Go.Proofs.YtckamaoibonjcaaGreat
open Go.RowKit
set_option maxHeartbeats 4000000
set_option maxRecDepth 100000
theorem nF{l:List Value}(b:l.all (λa=>a.oneCell')=true):∀a∈l,a.oneCell'=true:=λa c=>by
 rw[bX]at b;exact b a c
def Oc{a:Type}{n:Nat}(d:Nat->World->a->Prop)(e:(Nat->Prop)->a->Prop)(S:a->a->Prop)(f:a->List Value)(h:Nat)(T:TypeId)(g:Tm n->Option a)(p:List (Tm n))(w:World)(k:Nat)(v:Value)(wr:World):Prop:=
 ∃(b c:List a),b.length=k/\eN d e f h T 0 w.heap.size b v w wr/\cw g (p.take k)=some c/\ew S b c
theorem eN.slice{b:Type}{d:Nat->World->b->Prop}{e:(Nat->Prop)->b->Prop}{f:b->List Value}{k:Nat}{T:TypeId}{B base:Nat}{xs:List b}{v:Value}{w0 wr:World}(g:eN d e f k T B base xs v w0 wr):∃a c,v=.slice a xs.length c:=by
 rcases g.2.1.2 with⟨rfl,h⟩|⟨j,cap,i,rfl,_⟩
 ·exact⟨none,0,by rw[h]⟩
 ·exact⟨_,_,rfl⟩
theorem KX:(Tryz.prog.info? 224).map (λi=>(i.zero,i.size,i.bytes))=some (some (.agg #[.int .i64 0,.int .i64 0,.int .i64 0,.string .empty,.slice none 0 0,.int .i64 0,.int .i64 0,.string .empty,.slice none 0 0,.string .empty,.int .i64 0]),11,144):=by kernel_rfl
theorem G9(n:Nat)(y:Ac n):∀a∈fS n y,a.oneCell'=true:=nF rfl
theorem yE(M n:Nat)(p:List (Tm n))(len:Nat)(au:Hid (p.length=len))(a9:len<=8)(a:Option Addr)(pc B:Nat)(w:World)(r:Hid (fj B w n p a))(aM:B<=w.heap.size)(H:Hid (∀x∈p,∀w1,ag w w1->ah 157 #[df n x] w1 (qh (fS (M+1)) (ic (M+1)) (lu (M+1)) (BX (M+1)) (rN M n x) w1))):ah 156 #[.slice a len pc,.func (Fn.func 157) #[] #[]] w (kP 11 (fS (M+1)) (ic (M+1)) (lu (M+1)) (BX (M+1)) (cw (rN M n) p) w):=by
 obtain⟨aV,an,av,aw,ax⟩:=bO KX;have I:=aj (⟨an,av,aw,ax⟩:_/\_/\_/\_);clear an av aw ax;have q:=aj (fk (M+1));go_enter Tryz.func156,Tryz.ntmps156;go_wp2_with fail;go_loopw [6,13] (λv O wr=>∃(k:Nat)(aE:Value),k<=len/\O=.int .i64 k/\aE=v/\Hid (Oc (ic (M+1)) (lu (M+1)) (BX (M+1)) (fS (M+1)) 11 224 (rN M n) p w k aE wr)) (λ_ O _=>len-(intOf O).toNat)
 case atStart=>exact⟨0,_,by omega,rfl,rfl,[],[],rfl,eN.nil _,by simp[cw],ew.nil⟩
 case round=>
  obtain⟨k,v,a6,rfl,rfl,V⟩:=hrel;obtain⟨m,E,s,e,Y,W⟩:∃(m E:List (Ac (M+1))),Hid (m.length=k)/\Hid (eN (ic (M+1)) (lu (M+1)) (fS (M+1)) 11 224 0 w.heap.size m v w wr)/\Hid (cw (rN M n) (p.take k)=some E)/\Hid (ew (BX (M+1)) m E):=V.out;clear V;have N:w.heap.size<=wr.heap.size:=e.out.1.size;obtain⟨D,K,az⟩:=e.out.slice;rw[s.out]at az;subst az;by_cases aR:k<len
  ·obtain⟨x,C⟩:∃x,p[k]?=some x:=⟨p[k]'(by rw[au.out];exact aR),aD _⟩;have Z:=aj C;rcases(r.out.below (e.out.1.mono aM))with r|⟨aW,po,rfl,bb,r⟩
   ·subst r;simp at C
   obtain⟨aA,aT⟩:=r k x C;have G:Hid (∀w1,ag wr w1->ah 157 #[df n x] w1 (qh (fS (M+1)) (ic (M+1)) (lu (M+1)) (BX (M+1)) (rN M n x) w1)):=λw1 y=>H.out x (aC C) w1 (e.out.1.trans (y.mono N));obtain⟨o,A⟩:∃o,rN M n x=o:=⟨_,rfl⟩;rw[A]at G;have S:=aj A;have bc:aW<wr.heap.size:=by omega
   clear r C A aT;cases n with
   | zero=>exact aA.elim
   | succ n=>
   obtain⟨aY,aZ,a0,a1⟩:=aA;have J:df (n+1) x=.agg #[.int .i64 x.1.1,.int .i64 x.1.2.1,.string x.1.2.2,.slice x.2.1.1 x.2.2.length x.2.1.2]:=rfl;rw[J]at G;clear J;have a7:(0:Int)<=(k:Int):=by omega
   have a8:(k:Int)<(len:Int):=by omega
   go_wp2_with fail;refine(G.out _ aI).mono ?_;rintro a4 h ⟨d,aX,rfl,j⟩;have F:Hid (ag wr h):=aI.trans (j.out.1.mono (by simp));have ad:wr.heap.size<=h.heap.size:=F.out.size;have ab:Value.agg (fS (M+1) d).toArray=.agg #[.int .i64 d.1,.int .i64 d.2.1.1.1.1,.int .i64 d.2.1.1.1.2.1,.string d.2.1.1.1.2.2,.slice d.2.1.1.2.1.1 d.2.1.1.2.2.length d.2.1.1.2.1.2,.int .i64 d.2.1.2.1.1,.int .i64 d.2.1.2.1.2.1,.string d.2.1.2.1.2.2,.slice d.2.1.2.2.1.1 d.2.1.2.2.2.length d.2.1.2.2.1.2,.string d.2.2.1,.int .i64 d.2.2.2]:=rfl;rw[ab];clear ab G aY aZ a0 a1;cases aX
   ·have L:Hid (kP 11 (fS (M+1)) (ic (M+1)) (lu (M+1)) (BX (M+1)) (cw (rN M (n+1)) p) w (.returned (.tuple #[.slice none 0 0,.bool false])) (h.alloc (.cells #[.int .i64 d.1,.int .i64 d.2.1.1.1.1,.int .i64 d.2.1.1.1.2.1,.string d.2.1.1.1.2.2,.slice d.2.1.1.2.1.1 d.2.1.1.2.2.length d.2.1.1.2.1.2,.int .i64 d.2.1.2.1.1,.int .i64 d.2.1.2.1.2.1,.string d.2.1.2.1.2.2,.slice d.2.1.2.2.1.1 d.2.1.2.2.2.length d.2.1.2.2.1.2,.string d.2.2.1,.int .i64 d.2.2.2] 224))):=by
      have ao:cw (rN M (n+1)) p=none:=lC _ p k x Z.out (by
       have y:=j.out.2.1;rw[S.out];cases o with
       | none=>rfl
       | some i=>cases y)
      have z:ag w h:=e.out.1.trans (F.out.mono N);refine⟨[],none,0,false,rfl,z.trans (aI.mono z.size),by rw[ao];rfl,⟨ai _,aB _⟩,ae rfl,ae rfl,λi l=>by rw[ao]at l;cases l⟩
    clear j e;go_wp2_with fail;exact aq (v:=.tuple #[.slice none 0 0,.bool false]) (by simp[results,Tryz.results156,go_sem]) rfl L.out
   ·have X:=λ(P Q:Obj)(g c:Nat)(R:World) aS aP aN=>aj (eN.step q.out (T:=224) (w1:=(h.alloc P).alloc Q) (w2:=R) (g:=g) (c:=c) e.out (aB _) N (F.out.trans ((aI.trans (aI.mono (by simp))).mono ad)) d (q.out.mono (by simp;omega) (q.out.below (aI.trans (aI.mono (by simp))) j.out.2.2.1)) (q.out.1 _ _ _ (λb z=>af (by simp at z;omega)) j.out.2.2.2.1) aS aP aN);have U:=λ(P Q:Obj)=>aj (dF e.out.2.1 (F.out.trans ((aI.trans (aI.mono (by simp)):ag h ((h.alloc P).alloc Q)).mono ad)));rw[s.out]at X U;go_wp2_with (at_builtin;refine wpList_append_lies _ rfl _ _ 145 rfl w.heap.size 224 aV _ 11 144 Tryz.underlying145 I.out.1 I.out.2.1 I.out.2.2.1 I.out.2.2.2 rfl (by decide) (.slice D k K) k (m.flatMap (fS (M+1))) (by simp[Act.eval]) (U _ _).out ⟨h.heap.size+1,0,none⟩ 1 1 (fS (M+1) d) (by simp[Act.eval]) rfl (World.news_of_block (cs:= #[.int .i64 d.1,.int .i64 d.2.1.1.1.1,.int .i64 d.2.1.1.1.2.1,.string d.2.1.1.1.2.2,.slice d.2.1.1.2.1.1 d.2.1.1.2.2.length d.2.1.1.2.1.2,.int .i64 d.2.1.2.1.1,.int .i64 d.2.1.2.1.2.1,.string d.2.1.2.1.2.2,.slice d.2.1.2.2.1.1 d.2.1.2.2.2.length d.2.1.2.2.1.2,.string d.2.2.1,.int .i64 d.2.2.2]) (t:=224) (fr:=(0,0)) (by have u:=ay (h.alloc (.cells #[.int .i64 d.1,.int .i64 d.2.1.1.1.1,.int .i64 d.2.1.1.1.2.1,.string d.2.1.1.1.2.2,.slice d.2.1.1.2.1.1 d.2.1.1.2.2.length d.2.1.1.2.1.2,.int .i64 d.2.1.2.1.1,.int .i64 d.2.1.2.1.2.1,.string d.2.1.2.1.2.2,.slice d.2.1.2.2.1.1 d.2.1.2.2.2.length d.2.1.2.2.1.2,.string d.2.2.1,.int .i64 d.2.2.2] 224)) (.cells #[.int .i64 d.1,.int .i64 d.2.1.1.1.1,.int .i64 d.2.1.1.1.2.1,.string d.2.1.1.1.2.2,.slice d.2.1.1.2.1.1 d.2.1.1.2.2.length d.2.1.1.2.1.2,.int .i64 d.2.1.2.1.1,.int .i64 d.2.1.2.1.2.1,.string d.2.1.2.1.2.2,.slice d.2.1.2.2.1.1 d.2.1.2.2.2.length d.2.1.2.2.1.2,.string d.2.2.1,.int .i64 d.2.2.2] 224);simp only[gI]at u;exact u)) (G9 _ _) (by decide) (by unfold maxLen;omega) (by omega) (by simp;omega) (h.heap.size+1+1) (by simp) ?_;intro aL aJ R ar am al ba;have aH:=X _ _ aL aJ R ar am (by simpa using al);clear ar am al);have aF:Hid (∃i,o=some i/\BX (M+1) d i):=by
     have y:=j.out.2.1;cases o with
     | none=>cases y
     | some i=>exact⟨i,rfl,j.out.2.2.2.2 i rfl⟩
    obtain⟨i,l,aU⟩:=aF.out;have aG:=aj (S.out.trans l);go_roundw
    case rel=>exact⟨k+1,_,by omega,by go_num,rfl,m++ [d],E++ [i],by simp[s.out],aH.out,rk _ _ _ _ Z.out _ _ Y.out aG.out,W.out.snoc aU⟩
    case measure=>simp[intOf];omega
  ·have L:Hid (kP 11 (fS (M+1)) (ic (M+1)) (lu (M+1)) (BX (M+1)) (cw (rN M n) p) w (.returned (.tuple #[.slice D k K,.bool true])) wr):=by
     have ak:cw (rN M n) p=some E:=by have u:=Y.out;rw[bw (by rw[au.out];omega)]at u;exact u
     obtain⟨a2,a3,aa,aO,aQ,A⟩:=eN.lay (f:=fS (M+1)) (k:=11) q.out (λ_=>rfl) e.out;rw[s.out]at aa;injection aa with aK a5 J;subst aK J;refine⟨m,D,K,true,by rw[s.out],e.out.1,by rw[ak];rfl,aO,aQ,?_,λi l=>by rw[ak]at l;obtain rfl:=ap l;exact W.out⟩;exact(cr q.out 11 (fS (M+1)) D).1 _ _ _ (λb z=>by omega) A
   clear e;go_wp2_with fail;exact aq (v:=.tuple #[.slice D k K,.bool true]) (by simp[results,Tryz.results156,go_sem]) rfl L.out
theorem Cw:(Tryz.prog.info? 147).map (λi=>(i.zero,i.size,i.bytes))=some (some (.agg #[.int .i64 0,.int .i64 0,.string .empty,.slice none 0 0,.int .i64 0,.int .i64 0,.string .empty,.slice none 0 0,.slice none 0 0,.int .i64 0,.int .i64 0,.string .empty,.slice none 0 0]),13,192):=by kernel_rfl
theorem Ho(n:Nat)(y:Cl n):∀a∈eG n y,a.oneCell'=true:=nF rfl
theorem sU(M n:Nat)(p:List (Tm n))(len:Nat)(au:Hid (p.length=len))(a9:len<=8)(a:Option Addr)(pc B:Nat)(w:World)(r:Hid (fj B w n p a))(aM:B<=w.heap.size)(H:Hid (∀x∈p,∀w1,ag w w1->ah 126 #[df n x] w1 (qh (eG (M+1)) (gK (M+1)) (jz (M+1)) (BR (M+1)) (yy M n x) w1))):ah 125 #[.slice a len pc,.func (Fn.func 126) #[] #[]] w (kP 13 (eG (M+1)) (gK (M+1)) (jz (M+1)) (BR (M+1)) (cw (yy M n) p) w):=by
 obtain⟨aV,an,av,aw,ax⟩:=bO Cw;have I:=aj (⟨an,av,aw,ax⟩:_/\_/\_/\_);clear an av aw ax;have q:=aj (dT (M+1));go_enter Tryz.func125,Tryz.ntmps125;go_wp2_with fail;go_loopw [6,13] (λv O wr=>∃(k:Nat)(aE:Value),k<=len/\O=.int .i64 k/\aE=v/\Hid (Oc (gK (M+1)) (jz (M+1)) (BR (M+1)) (eG (M+1)) 13 147 (yy M n) p w k aE wr)) (λ_ O _=>len-(intOf O).toNat)
 case atStart=>exact⟨0,_,by omega,rfl,rfl,[],[],rfl,eN.nil _,by simp[cw],ew.nil⟩
 case round=>
  obtain⟨k,v,a6,rfl,rfl,V⟩:=hrel;obtain⟨m,E,s,e,Y,W⟩:∃(m E:List (Cl (M+1))),Hid (m.length=k)/\Hid (eN (gK (M+1)) (jz (M+1)) (eG (M+1)) 13 147 0 w.heap.size m v w wr)/\Hid (cw (yy M n) (p.take k)=some E)/\Hid (ew (BR (M+1)) m E):=V.out;clear V;have N:w.heap.size<=wr.heap.size:=e.out.1.size;obtain⟨D,K,az⟩:=e.out.slice;rw[s.out]at az;subst az;by_cases aR:k<len
  ·obtain⟨x,C⟩:∃x,p[k]?=some x:=⟨p[k]'(by rw[au.out];exact aR),aD _⟩;have Z:=aj C;rcases(r.out.below (e.out.1.mono aM))with r|⟨aW,po,rfl,bb,r⟩
   ·subst r;simp at C
   obtain⟨aA,aT⟩:=r k x C;have G:Hid (∀w1,ag wr w1->ah 126 #[df n x] w1 (qh (eG (M+1)) (gK (M+1)) (jz (M+1)) (BR (M+1)) (yy M n x) w1)):=λw1 y=>H.out x (aC C) w1 (e.out.1.trans (y.mono N));obtain⟨o,A⟩:∃o,yy M n x=o:=⟨_,rfl⟩;rw[A]at G;have S:=aj A;have bc:aW<wr.heap.size:=by omega
   clear r C A aT;cases n with
   | zero=>exact aA.elim
   | succ n=>
   obtain⟨aY,aZ,a0,a1⟩:=aA;have J:df (n+1) x=.agg #[.int .i64 x.1.1,.int .i64 x.1.2.1,.string x.1.2.2,.slice x.2.1.1 x.2.2.length x.2.1.2]:=rfl;rw[J]at G;clear J;have a7:(0:Int)<=(k:Int):=by omega
   have a8:(k:Int)<(len:Int):=by omega
   go_wp2_with fail;refine(G.out _ aI).mono ?_;rintro a4 h ⟨d,aX,rfl,j⟩;have F:Hid (ag wr h):=aI.trans (j.out.1.mono (by simp));have ad:wr.heap.size<=h.heap.size:=F.out.size;have ab:Value.agg (eG (M+1) d).toArray=.agg #[.int .i64 d.1.1.1.1,.int .i64 d.1.1.1.2.1,.string d.1.1.1.2.2,.slice d.1.1.2.1.1 d.1.1.2.2.length d.1.1.2.1.2,.int .i64 d.1.2.1.1.1,.int .i64 d.1.2.1.1.2.1,.string d.1.2.1.1.2.2,.slice d.1.2.1.2.1.1 d.1.2.1.2.2.length d.1.2.1.2.1.2,.slice d.2.1.1 d.2.2.length d.2.1.2,.int .i64 d.1.2.2.1.1,.int .i64 d.1.2.2.1.2.1,.string d.1.2.2.1.2.2,.slice d.1.2.2.2.1.1 d.1.2.2.2.2.length d.1.2.2.2.1.2]:=rfl;rw[ab];clear ab G aY aZ a0 a1;cases aX
   ·have L:Hid (kP 13 (eG (M+1)) (gK (M+1)) (jz (M+1)) (BR (M+1)) (cw (yy M (n+1)) p) w (.returned (.tuple #[.slice none 0 0,.bool false])) (h.alloc (.cells #[.int .i64 d.1.1.1.1,.int .i64 d.1.1.1.2.1,.string d.1.1.1.2.2,.slice d.1.1.2.1.1 d.1.1.2.2.length d.1.1.2.1.2,.int .i64 d.1.2.1.1.1,.int .i64 d.1.2.1.1.2.1,.string d.1.2.1.1.2.2,.slice d.1.2.1.2.1.1 d.1.2.1.2.2.length d.1.2.1.2.1.2,.slice d.2.1.1 d.2.2.length d.2.1.2,.int .i64 d.1.2.2.1.1,.int .i64 d.1.2.2.1.2.1,.string d.1.2.2.1.2.2,.slice d.1.2.2.2.1.1 d.1.2.2.2.2.length d.1.2.2.2.1.2] 147))):=by
      have ao:cw (yy M (n+1)) p=none:=lC _ p k x Z.out (by
       have y:=j.out.2.1;rw[S.out];cases o with
       | none=>rfl
       | some i=>cases y)
      have z:ag w h:=e.out.1.trans (F.out.mono N);refine⟨[],none,0,false,rfl,z.trans (aI.mono z.size),by rw[ao];rfl,⟨ai _,aB _⟩,ae rfl,ae rfl,λi l=>by rw[ao]at l;cases l⟩
    clear j e;go_wp2_with fail;exact aq (v:=.tuple #[.slice none 0 0,.bool false]) (by simp[results,Tryz.results125,go_sem]) rfl L.out
   ·have X:=λ(P Q:Obj)(g c:Nat)(R:World) aS aP aN=>aj (eN.step q.out (T:=147) (w1:=(h.alloc P).alloc Q) (w2:=R) (g:=g) (c:=c) e.out (aB _) N (F.out.trans ((aI.trans (aI.mono (by simp))).mono ad)) d (q.out.mono (by simp;omega) (q.out.below (aI.trans (aI.mono (by simp))) j.out.2.2.1)) (q.out.1 _ _ _ (λb z=>af (by simp at z;omega)) j.out.2.2.2.1) aS aP aN);have U:=λ(P Q:Obj)=>aj (dF e.out.2.1 (F.out.trans ((aI.trans (aI.mono (by simp)):ag h ((h.alloc P).alloc Q)).mono ad)));rw[s.out]at X U;go_wp2_with (at_builtin;refine wpList_append_lies _ rfl _ _ 136 rfl w.heap.size 147 aV _ 13 192 Tryz.underlying136 I.out.1 I.out.2.1 I.out.2.2.1 I.out.2.2.2 rfl (by decide) (.slice D k K) k (m.flatMap (eG (M+1))) (by simp[Act.eval]) (U _ _).out ⟨h.heap.size+1,0,none⟩ 1 1 (eG (M+1) d) (by simp[Act.eval]) rfl (World.news_of_block (cs:= #[.int .i64 d.1.1.1.1,.int .i64 d.1.1.1.2.1,.string d.1.1.1.2.2,.slice d.1.1.2.1.1 d.1.1.2.2.length d.1.1.2.1.2,.int .i64 d.1.2.1.1.1,.int .i64 d.1.2.1.1.2.1,.string d.1.2.1.1.2.2,.slice d.1.2.1.2.1.1 d.1.2.1.2.2.length d.1.2.1.2.1.2,.slice d.2.1.1 d.2.2.length d.2.1.2,.int .i64 d.1.2.2.1.1,.int .i64 d.1.2.2.1.2.1,.string d.1.2.2.1.2.2,.slice d.1.2.2.2.1.1 d.1.2.2.2.2.length d.1.2.2.2.1.2]) (t:=147) (fr:=(0,0)) (by have u:=ay (h.alloc (.cells #[.int .i64 d.1.1.1.1,.int .i64 d.1.1.1.2.1,.string d.1.1.1.2.2,.slice d.1.1.2.1.1 d.1.1.2.2.length d.1.1.2.1.2,.int .i64 d.1.2.1.1.1,.int .i64 d.1.2.1.1.2.1,.string d.1.2.1.1.2.2,.slice d.1.2.1.2.1.1 d.1.2.1.2.2.length d.1.2.1.2.1.2,.slice d.2.1.1 d.2.2.length d.2.1.2,.int .i64 d.1.2.2.1.1,.int .i64 d.1.2.2.1.2.1,.string d.1.2.2.1.2.2,.slice d.1.2.2.2.1.1 d.1.2.2.2.2.length d.1.2.2.2.1.2] 147)) (.cells #[.int .i64 d.1.1.1.1,.int .i64 d.1.1.1.2.1,.string d.1.1.1.2.2,.slice d.1.1.2.1.1 d.1.1.2.2.length d.1.1.2.1.2,.int .i64 d.1.2.1.1.1,.int .i64 d.1.2.1.1.2.1,.string d.1.2.1.1.2.2,.slice d.1.2.1.2.1.1 d.1.2.1.2.2.length d.1.2.1.2.1.2,.slice d.2.1.1 d.2.2.length d.2.1.2,.int .i64 d.1.2.2.1.1,.int .i64 d.1.2.2.1.2.1,.string d.1.2.2.1.2.2,.slice d.1.2.2.2.1.1 d.1.2.2.2.2.length d.1.2.2.2.1.2] 147);simp only[gI]at u;exact u)) (Ho _ _) (by decide) (by unfold maxLen;omega) (by omega) (by simp;omega) (h.heap.size+1+1) (by simp) ?_;intro aL aJ R ar am al ba;have aH:=X _ _ aL aJ R ar am (by simpa using al);clear ar am al);have aF:Hid (∃i,o=some i/\BR (M+1) d i):=by
     have y:=j.out.2.1;cases o with
     | none=>cases y
     | some i=>exact⟨i,rfl,j.out.2.2.2.2 i rfl⟩
    obtain⟨i,l,aU⟩:=aF.out;have aG:=aj (S.out.trans l);go_roundw
    case rel=>exact⟨k+1,_,by omega,by go_num,rfl,m++ [d],E++ [i],by simp[s.out],aH.out,rk _ _ _ _ Z.out _ _ Y.out aG.out,W.out.snoc aU⟩
    case measure=>simp[intOf];omega
  ·have L:Hid (kP 13 (eG (M+1)) (gK (M+1)) (jz (M+1)) (BR (M+1)) (cw (yy M n) p) w (.returned (.tuple #[.slice D k K,.bool true])) wr):=by
     have ak:cw (yy M n) p=some E:=by have u:=Y.out;rw[bw (by rw[au.out];omega)]at u;exact u
     obtain⟨a2,a3,aa,aO,aQ,A⟩:=eN.lay (f:=eG (M+1)) (k:=13) q.out (λ_=>rfl) e.out;rw[s.out]at aa;injection aa with aK a5 J;subst aK J;refine⟨m,D,K,true,by rw[s.out],e.out.1,by rw[ak];rfl,aO,aQ,?_,λi l=>by rw[ak]at l;obtain rfl:=ap l;exact W.out⟩;exact(cr q.out 13 (eG (M+1)) D).1 _ _ _ (λb z=>by omega) A
   clear e;go_wp2_with fail;exact aq (v:=.tuple #[.slice D k K,.bool true]) (by simp[results,Tryz.results125,go_sem]) rfl L.out
theorem vv:(Tryz.prog.info? 138).map (λi=>(i.zero,i.size,i.bytes))=some (some (.agg #[.string .empty,.slice none 0 0]),2,40):=by kernel_rfl
theorem Ku(n:Nat)(y:Bh n):∀a∈oS n y,a.oneCell'=true:=nF rfl
theorem pN(M n:Nat)(p:List (Tm n))(len:Nat)(au:Hid (p.length=len))(a9:len<=8)(a:Option Addr)(pc B:Nat)(w:World)(r:Hid (fj B w n p a))(aM:B<=w.heap.size)(H:Hid (∀x∈p,∀w1,ag w w1->ah 92 #[df n x] w1 (qh (oS (M+1)) (oQ (M+1)) (jy (M+1)) (xz (M+1)) (yx M n x) w1))):ah 91 #[.slice a len pc,.func (Fn.func 92) #[] #[]] w (kP 2 (oS (M+1)) (oQ (M+1)) (jy (M+1)) (xz (M+1)) (cw (yx M n) p) w):=by
 obtain⟨aV,an,av,aw,ax⟩:=bO vv;have I:=aj (⟨an,av,aw,ax⟩:_/\_/\_/\_);clear an av aw ax;have q:=aj (dJ (M+1));go_enter Tryz.func91,Tryz.ntmps91;go_wp2_with fail;go_loopw [6,13] (λv O wr=>∃(k:Nat)(aE:Value),k<=len/\O=.int .i64 k/\aE=v/\Hid (Oc (oQ (M+1)) (jy (M+1)) (xz (M+1)) (oS (M+1)) 2 138 (yx M n) p w k aE wr)) (λ_ O _=>len-(intOf O).toNat)
 case atStart=>exact⟨0,_,by omega,rfl,rfl,[],[],rfl,eN.nil _,by simp[cw],ew.nil⟩
 case round=>
  obtain⟨k,v,a6,rfl,rfl,V⟩:=hrel;obtain⟨m,E,s,e,Y,W⟩:∃(m E:List (Bh (M+1))),Hid (m.length=k)/\Hid (eN (oQ (M+1)) (jy (M+1)) (oS (M+1)) 2 138 0 w.heap.size m v w wr)/\Hid (cw (yx M n) (p.take k)=some E)/\Hid (ew (xz (M+1)) m E):=V.out;clear V;have N:w.heap.size<=wr.heap.size:=e.out.1.size;obtain⟨D,K,az⟩:=e.out.slice;rw[s.out]at az;subst az;by_cases aR:k<len
  ·obtain⟨x,C⟩:∃x,p[k]?=some x:=⟨p[k]'(by rw[au.out];exact aR),aD _⟩;have Z:=aj C;rcases(r.out.below (e.out.1.mono aM))with r|⟨aW,po,rfl,bb,r⟩
   ·subst r;simp at C
   obtain⟨aA,aT⟩:=r k x C;have G:Hid (∀w1,ag wr w1->ah 92 #[df n x] w1 (qh (oS (M+1)) (oQ (M+1)) (jy (M+1)) (xz (M+1)) (yx M n x) w1)):=λw1 y=>H.out x (aC C) w1 (e.out.1.trans (y.mono N));obtain⟨o,A⟩:∃o,yx M n x=o:=⟨_,rfl⟩;rw[A]at G;have S:=aj A;have bc:aW<wr.heap.size:=by omega
   clear r C A aT;cases n with
   | zero=>exact aA.elim
   | succ n=>
   obtain⟨aY,aZ,a0,a1⟩:=aA;have J:df (n+1) x=.agg #[.int .i64 x.1.1,.int .i64 x.1.2.1,.string x.1.2.2,.slice x.2.1.1 x.2.2.length x.2.1.2]:=rfl;rw[J]at G;clear J;have a7:(0:Int)<=(k:Int):=by omega
   have a8:(k:Int)<(len:Int):=by omega
   go_wp2_with fail;refine(G.out _ aI).mono ?_;rintro a4 h ⟨d,aX,rfl,j⟩;have F:Hid (ag wr h):=aI.trans (j.out.1.mono (by simp));have ad:wr.heap.size<=h.heap.size:=F.out.size;have ab:Value.agg (oS (M+1) d).toArray=.agg #[.string d.1,.slice d.2.1.1 d.2.2.length d.2.1.2]:=rfl;rw[ab];clear ab G aY aZ a0 a1;cases aX
   ·have L:Hid (kP 2 (oS (M+1)) (oQ (M+1)) (jy (M+1)) (xz (M+1)) (cw (yx M (n+1)) p) w (.returned (.tuple #[.slice none 0 0,.bool false])) (h.alloc (.cells #[.string d.1,.slice d.2.1.1 d.2.2.length d.2.1.2] 138))):=by
      have ao:cw (yx M (n+1)) p=none:=lC _ p k x Z.out (by
       have y:=j.out.2.1;rw[S.out];cases o with
       | none=>rfl
       | some i=>cases y)
      have z:ag w h:=e.out.1.trans (F.out.mono N);refine⟨[],none,0,false,rfl,z.trans (aI.mono z.size),by rw[ao];rfl,⟨ai _,aB _⟩,ae rfl,ae rfl,λi l=>by rw[ao]at l;cases l⟩
    clear j e;go_wp2_with fail;exact aq (v:=.tuple #[.slice none 0 0,.bool false]) (by simp[results,Tryz.results91,go_sem]) rfl L.out
   ·have X:=λ(P Q:Obj)(g c:Nat)(R:World) aS aP aN=>aj (eN.step q.out (T:=138) (w1:=(h.alloc P).alloc Q) (w2:=R) (g:=g) (c:=c) e.out (aB _) N (F.out.trans ((aI.trans (aI.mono (by simp))).mono ad)) d (q.out.mono (by simp;omega) (q.out.below (aI.trans (aI.mono (by simp))) j.out.2.2.1)) (q.out.1 _ _ _ (λb z=>af (by simp at z;omega)) j.out.2.2.2.1) aS aP aN);have U:=λ(P Q:Obj)=>aj (dF e.out.2.1 (F.out.trans ((aI.trans (aI.mono (by simp)):ag h ((h.alloc P).alloc Q)).mono ad)));rw[s.out]at X U;go_wp2_with (at_builtin;refine wpList_append_lies _ rfl _ _ 22 rfl w.heap.size 138 aV _ 2 40 Tryz.underlying22 I.out.1 I.out.2.1 I.out.2.2.1 I.out.2.2.2 rfl (by decide) (.slice D k K) k (m.flatMap (oS (M+1))) (by simp[Act.eval]) (U _ _).out ⟨h.heap.size+1,0,none⟩ 1 1 (oS (M+1) d) (by simp[Act.eval]) rfl (World.news_of_block (cs:= #[.string d.1,.slice d.2.1.1 d.2.2.length d.2.1.2]) (t:=138) (fr:=(0,0)) (by have u:=ay (h.alloc (.cells #[.string d.1,.slice d.2.1.1 d.2.2.length d.2.1.2] 138)) (.cells #[.string d.1,.slice d.2.1.1 d.2.2.length d.2.1.2] 138);simp only[gI]at u;exact u)) (Ku _ _) (by decide) (by unfold maxLen;omega) (by omega) (by simp;omega) (h.heap.size+1+1) (by simp) ?_;intro aL aJ R ar am al ba;have aH:=X _ _ aL aJ R ar am (by simpa using al);clear ar am al);have aF:Hid (∃i,o=some i/\xz (M+1) d i):=by
     have y:=j.out.2.1;cases o with
     | none=>cases y
     | some i=>exact⟨i,rfl,j.out.2.2.2.2 i rfl⟩
    obtain⟨i,l,aU⟩:=aF.out;have aG:=aj (S.out.trans l);go_roundw
    case rel=>exact⟨k+1,_,by omega,by go_num,rfl,m++ [d],E++ [i],by simp[s.out],aH.out,rk _ _ _ _ Z.out _ _ Y.out aG.out,W.out.snoc aU⟩
    case measure=>simp[intOf];omega
  ·have L:Hid (kP 2 (oS (M+1)) (oQ (M+1)) (jy (M+1)) (xz (M+1)) (cw (yx M n) p) w (.returned (.tuple #[.slice D k K,.bool true])) wr):=by
     have ak:cw (yx M n) p=some E:=by have u:=Y.out;rw[bw (by rw[au.out];omega)]at u;exact u
     obtain⟨a2,a3,aa,aO,aQ,A⟩:=eN.lay (f:=oS (M+1)) (k:=2) q.out (λ_=>rfl) e.out;rw[s.out]at aa;injection aa with aK a5 J;subst aK J;refine⟨m,D,K,true,by rw[s.out],e.out.1,by rw[ak];rfl,aO,aQ,?_,λi l=>by rw[ak]at l;obtain rfl:=ap l;exact W.out⟩;exact(cr q.out 2 (oS (M+1)) D).1 _ _ _ (λb z=>by omega) A
   clear e;go_wp2_with fail;exact aq (v:=.tuple #[.slice D k K,.bool true]) (by simp[results,Tryz.results91,go_sem]) rfl L.out
end Go.Proofs.YtckamaoibonjcaaGreat
