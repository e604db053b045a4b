/- What is proved here: code.readAll at acts, clauses and behaviours, from what the reader of one does: what it returns is a new row of what is read, or false where one can't be. Condition: at most 8 terms. -/
import Derived.Test.YtckamaoibonjcaaGreatG33
namespace Go.Proofs.YtckamaoibonjcaaGreat
open Go.RowKit
set_option maxHeartbeats 4000000
set_option maxRecDepth 100000
theorem nz{l:List Value}(b:l.all (λa=>a.oneCell')=true):∀a∈l,a.oneCell'=true:=λa c=>by
 rw[bX]at b;exact b a c
def NW{a:Type}{n:Nat}(d:Nat->World->a->Prop)(e:(Nat->Prop)->a->Prop)(S:a->a->Prop)(f:a->List Value)(h:Nat)(T:TypeId)(g:Tm n->Option a)(p:List (Tm n))(w:World)(k:Nat)(v:Value)(wr:World):Prop:=
 ∃(b c:List a),b.length=k/\eL d e f h T 0 w.heap.size b v w wr/\cw g (p.take k)=some c/\eu S b c
theorem eL.slice{b:Type}{d:Nat->World->b->Prop}{e:(Nat->Prop)->b->Prop}{f:b->List Value}{k:Nat}{T:TypeId}{B base:Nat}{xs:List b}{v:Value}{w0 wr:World}(g:eL d e f k T B base xs v w0 wr):∃a c,v=.slice a xs.length c:=by
 rcases g.2.1.2 with⟨rfl,h⟩|⟨j,cap,i,rfl,_⟩
 ·exact⟨none,0,by rw[h]⟩
 ·exact⟨_,_,rfl⟩
theorem KH:(Tryz.prog.info? 224).map (λi=>(i.zero,i.size,i.bytes))=some (some (.agg #[.int .i64 0,.int .i64 0,.int .i64 0,.string .empty,.slice none 0 0,.int .i64 0,.int .i64 0,.string .empty,.slice none 0 0,.string .empty,.int .i64 0]),11,144):=by kernel_rfl
theorem GV(n:Nat)(y:Ac n):∀a∈fM n y,a.oneCell'=true:=nz rfl
theorem yr(M n:Nat)(p:List (Tm n))(len:Nat)(au:Hid (p.length=len))(a9:len<=8)(a:Option Addr)(pc B:Nat)(w:World)(r:Hid (fe B w n p a))(aM:B<=w.heap.size)(H:Hid (∀x∈p,∀w1,ag w w1->ah 157 #[dd n x] w1 (pZ (fM (M+1)) (gZ (M+1)) (lj (M+1)) (BM (M+1)) (rF M n x) w1))):ah 156 #[.slice a len pc,.func (Fn.func 157) #[] #[]] w (kJ 11 (fM (M+1)) (gZ (M+1)) (lj (M+1)) (BM (M+1)) (cw (rF M n) p) w):=by
 obtain⟨aV,an,av,aw,ay⟩:=bO KH;have I:=aj (⟨an,av,aw,ay⟩:_/\_/\_/\_);clear an av aw ay;have q:=aj (fh (M+1));go_enter Tryz.func156,Tryz.ntmps156;go_wp2_with fail;go_loopw [6,13] (λv O wr=>∃(k:Nat)(aE:Value),k<=len/\O=.int .i64 k/\aE=v/\Hid (NW (gZ (M+1)) (lj (M+1)) (BM (M+1)) (fM (M+1)) 11 224 (rF M n) p w k aE wr)) (λ_ O _=>len-(intOf O).toNat)
 case atStart=>exact⟨0,_,by omega,rfl,rfl,[],[],rfl,eL.nil _,by simp[cw],eu.nil⟩
 case round=>
  obtain⟨k,v,a6,rfl,rfl,V⟩:=hrel;obtain⟨m,E,s,e,Y,W⟩:∃(m E:List (Ac (M+1))),Hid (m.length=k)/\Hid (eL (gZ (M+1)) (lj (M+1)) (fM (M+1)) 11 224 0 w.heap.size m v w wr)/\Hid (cw (rF M n) (p.take k)=some E)/\Hid (eu (BM (M+1)) m E):=V.out;clear V;have N:w.heap.size<=wr.heap.size:=e.out.1.size;obtain⟨D,K,az⟩:=e.out.slice;rw[s.out]at az;subst az;by_cases aR:k<len
  ·obtain⟨x,C⟩:∃x,p[k]?=some x:=⟨p[k]'(by rw[au.out];exact aR),aD _⟩;have Z:=aj C;rcases(r.out.below (e.out.1.mono aM))with r|⟨aW,po,rfl,bb,r⟩
   ·subst r;simp at C
   obtain⟨aA,aT⟩:=r k x C;have G:Hid (∀w1,ag wr w1->ah 157 #[dd n x] w1 (pZ (fM (M+1)) (gZ (M+1)) (lj (M+1)) (BM (M+1)) (rF M n x) w1)):=λw1 y=>H.out x (aC C) w1 (e.out.1.trans (y.mono N));obtain⟨o,A⟩:∃o,rF M n x=o:=⟨_,rfl⟩;rw[A]at G;have S:=aj A;have bc:aW<wr.heap.size:=by omega
   clear r C A aT;cases n with
   | zero=>exact aA.elim
   | succ n=>
   obtain⟨aY,aZ,a0,a1⟩:=aA;have J:dd (n+1) x=.agg #[.int .i64 x.1.1,.int .i64 x.1.2.1,.string x.1.2.2,.slice x.2.1.1 x.2.2.length x.2.1.2]:=rfl;rw[J]at G;clear J;have a7:(0:Int)<=(k:Int):=by omega
   have a8:(k:Int)<(len:Int):=by omega
   go_wp2_with fail;refine(G.out _ aI).mono ?_;rintro a4 h ⟨d,aX,rfl,j⟩;have F:Hid (ag wr h):=aI.trans (j.out.1.mono (by simp));have ad:wr.heap.size<=h.heap.size:=F.out.size;have ab:Value.agg (fM (M+1) d).toArray=.agg #[.int .i64 d.1,.int .i64 d.2.1.1.1.1,.int .i64 d.2.1.1.1.2.1,.string d.2.1.1.1.2.2,.slice d.2.1.1.2.1.1 d.2.1.1.2.2.length d.2.1.1.2.1.2,.int .i64 d.2.1.2.1.1,.int .i64 d.2.1.2.1.2.1,.string d.2.1.2.1.2.2,.slice d.2.1.2.2.1.1 d.2.1.2.2.2.length d.2.1.2.2.1.2,.string d.2.2.1,.int .i64 d.2.2.2]:=rfl;rw[ab];clear ab G aY aZ a0 a1;cases aX
   ·have L:Hid (kJ 11 (fM (M+1)) (gZ (M+1)) (lj (M+1)) (BM (M+1)) (cw (rF M (n+1)) p) w (.returned (.tuple #[.slice none 0 0,.bool false])) (h.alloc (.cells #[.int .i64 d.1,.int .i64 d.2.1.1.1.1,.int .i64 d.2.1.1.1.2.1,.string d.2.1.1.1.2.2,.slice d.2.1.1.2.1.1 d.2.1.1.2.2.length d.2.1.1.2.1.2,.int .i64 d.2.1.2.1.1,.int .i64 d.2.1.2.1.2.1,.string d.2.1.2.1.2.2,.slice d.2.1.2.2.1.1 d.2.1.2.2.2.length d.2.1.2.2.1.2,.string d.2.2.1,.int .i64 d.2.2.2] 224))):=by
      have ao:cw (rF M (n+1)) p=none:=lq _ p k x Z.out (by
       have y:=j.out.2.1;rw[S.out];cases o with
       | none=>rfl
       | some i=>cases y)
      have z:ag w h:=e.out.1.trans (F.out.mono N);refine⟨[],none,0,false,rfl,z.trans (aI.mono z.size),by rw[ao];rfl,⟨ai _,aB _⟩,ae rfl,ae rfl,λi l=>by rw[ao]at l;cases l⟩
    clear j e;go_wp2_with fail;exact ap (v:=.tuple #[.slice none 0 0,.bool false]) (by simp[results,Tryz.results156,go_sem]) rfl L.out
   ·have X:=λ(P Q:Obj)(g c:Nat)(R:World) aS aP aN=>aj (eL.step q.out (T:=224) (w1:=(h.alloc P).alloc Q) (w2:=R) (g:=g) (c:=c) e.out (aB _) N (F.out.trans ((aI.trans (aI.mono (by simp))).mono ad)) d (q.out.mono (by simp;omega) (q.out.below (aI.trans (aI.mono (by simp))) j.out.2.2.1)) (q.out.1 _ _ _ (λb z=>af (by simp at z;omega)) j.out.2.2.2.1) aS aP aN);have U:=λ(P Q:Obj)=>aj (dE e.out.2.1 (F.out.trans ((aI.trans (aI.mono (by simp)):ag h ((h.alloc P).alloc Q)).mono ad)));rw[s.out]at X U;go_wp2_with (at_builtin;refine wpList_append_lies _ rfl _ _ 145 rfl w.heap.size 224 aV _ 11 144 Tryz.underlying145 I.out.1 I.out.2.1 I.out.2.2.1 I.out.2.2.2 rfl (by decide) (.slice D k K) k (m.flatMap (fM (M+1))) (by simp[Act.eval]) (U _ _).out ⟨h.heap.size+1,0,none⟩ 1 1 (fM (M+1) d) (by simp[Act.eval]) rfl (World.news_of_block (cs:= #[.int .i64 d.1,.int .i64 d.2.1.1.1.1,.int .i64 d.2.1.1.1.2.1,.string d.2.1.1.1.2.2,.slice d.2.1.1.2.1.1 d.2.1.1.2.2.length d.2.1.1.2.1.2,.int .i64 d.2.1.2.1.1,.int .i64 d.2.1.2.1.2.1,.string d.2.1.2.1.2.2,.slice d.2.1.2.2.1.1 d.2.1.2.2.2.length d.2.1.2.2.1.2,.string d.2.2.1,.int .i64 d.2.2.2]) (t:=224) (fr:=(0,0)) (by have u:=ax (h.alloc (.cells #[.int .i64 d.1,.int .i64 d.2.1.1.1.1,.int .i64 d.2.1.1.1.2.1,.string d.2.1.1.1.2.2,.slice d.2.1.1.2.1.1 d.2.1.1.2.2.length d.2.1.1.2.1.2,.int .i64 d.2.1.2.1.1,.int .i64 d.2.1.2.1.2.1,.string d.2.1.2.1.2.2,.slice d.2.1.2.2.1.1 d.2.1.2.2.2.length d.2.1.2.2.1.2,.string d.2.2.1,.int .i64 d.2.2.2] 224)) (.cells #[.int .i64 d.1,.int .i64 d.2.1.1.1.1,.int .i64 d.2.1.1.1.2.1,.string d.2.1.1.1.2.2,.slice d.2.1.1.2.1.1 d.2.1.1.2.2.length d.2.1.1.2.1.2,.int .i64 d.2.1.2.1.1,.int .i64 d.2.1.2.1.2.1,.string d.2.1.2.1.2.2,.slice d.2.1.2.2.1.1 d.2.1.2.2.2.length d.2.1.2.2.1.2,.string d.2.2.1,.int .i64 d.2.2.2] 224);simp only[gC]at u;exact u)) (GV _ _) (by decide) (by unfold maxLen;omega) (by omega) (by simp;omega) (h.heap.size+1+1) (by simp) ?_;intro aL aJ R ar am al ba;have aH:=X _ _ aL aJ R ar am (by simpa using al);clear ar am al);have aF:Hid (∃i,o=some i/\BM (M+1) d i):=by
     have y:=j.out.2.1;cases o with
     | none=>cases y
     | some i=>exact⟨i,rfl,j.out.2.2.2.2 i rfl⟩
    obtain⟨i,l,aU⟩:=aF.out;have aG:=aj (S.out.trans l);go_roundw
    case rel=>exact⟨k+1,_,by omega,by go_num,rfl,m++ [d],E++ [i],by simp[s.out],aH.out,qX _ _ _ _ Z.out _ _ Y.out aG.out,W.out.snoc aU⟩
    case measure=>simp[intOf];omega
  ·have L:Hid (kJ 11 (fM (M+1)) (gZ (M+1)) (lj (M+1)) (BM (M+1)) (cw (rF M n) p) w (.returned (.tuple #[.slice D k K,.bool true])) wr):=by
     have ak:cw (rF M n) p=some E:=by have u:=Y.out;rw[bw (by rw[au.out];omega)]at u;exact u
     obtain⟨a2,a3,aa,aO,aQ,A⟩:=eL.lay (f:=fM (M+1)) (k:=11) q.out (λ_=>rfl) e.out;rw[s.out]at aa;injection aa with aK a5 J;subst aK J;refine⟨m,D,K,true,by rw[s.out],e.out.1,by rw[ak];rfl,aO,aQ,?_,λi l=>by rw[ak]at l;obtain rfl:=aq l;exact W.out⟩;exact(cq q.out 11 (fM (M+1)) D).1 _ _ _ (λb z=>by omega) A
   clear e;go_wp2_with fail;exact ap (v:=.tuple #[.slice D k K,.bool true]) (by simp[results,Tryz.results156,go_sem]) rfl L.out
theorem Cm:(Tryz.prog.info? 147).map (λi=>(i.zero,i.size,i.bytes))=some (some (.agg #[.int .i64 0,.int .i64 0,.string .empty,.slice none 0 0,.int .i64 0,.int .i64 0,.string .empty,.slice none 0 0,.slice none 0 0,.int .i64 0,.int .i64 0,.string .empty,.slice none 0 0]),13,192):=by kernel_rfl
theorem G9(n:Nat)(y:Cl n):∀a∈eE n y,a.oneCell'=true:=nz rfl
theorem sN(M n:Nat)(p:List (Tm n))(len:Nat)(au:Hid (p.length=len))(a9:len<=8)(a:Option Addr)(pc B:Nat)(w:World)(r:Hid (fe B w n p a))(aM:B<=w.heap.size)(H:Hid (∀x∈p,∀w1,ag w w1->ah 126 #[dd n x] w1 (pZ (eE (M+1)) (gE (M+1)) (ju (M+1)) (BF (M+1)) (yj M n x) w1))):ah 125 #[.slice a len pc,.func (Fn.func 126) #[] #[]] w (kJ 13 (eE (M+1)) (gE (M+1)) (ju (M+1)) (BF (M+1)) (cw (yj M n) p) w):=by
 obtain⟨aV,an,av,aw,ay⟩:=bO Cm;have I:=aj (⟨an,av,aw,ay⟩:_/\_/\_/\_);clear an av aw ay;have q:=aj (dS (M+1));go_enter Tryz.func125,Tryz.ntmps125;go_wp2_with fail;go_loopw [6,13] (λv O wr=>∃(k:Nat)(aE:Value),k<=len/\O=.int .i64 k/\aE=v/\Hid (NW (gE (M+1)) (ju (M+1)) (BF (M+1)) (eE (M+1)) 13 147 (yj M n) p w k aE wr)) (λ_ O _=>len-(intOf O).toNat)
 case atStart=>exact⟨0,_,by omega,rfl,rfl,[],[],rfl,eL.nil _,by simp[cw],eu.nil⟩
 case round=>
  obtain⟨k,v,a6,rfl,rfl,V⟩:=hrel;obtain⟨m,E,s,e,Y,W⟩:∃(m E:List (Cl (M+1))),Hid (m.length=k)/\Hid (eL (gE (M+1)) (ju (M+1)) (eE (M+1)) 13 147 0 w.heap.size m v w wr)/\Hid (cw (yj M n) (p.take k)=some E)/\Hid (eu (BF (M+1)) m E):=V.out;clear V;have N:w.heap.size<=wr.heap.size:=e.out.1.size;obtain⟨D,K,az⟩:=e.out.slice;rw[s.out]at az;subst az;by_cases aR:k<len
  ·obtain⟨x,C⟩:∃x,p[k]?=some x:=⟨p[k]'(by rw[au.out];exact aR),aD _⟩;have Z:=aj C;rcases(r.out.below (e.out.1.mono aM))with r|⟨aW,po,rfl,bb,r⟩
   ·subst r;simp at C
   obtain⟨aA,aT⟩:=r k x C;have G:Hid (∀w1,ag wr w1->ah 126 #[dd n x] w1 (pZ (eE (M+1)) (gE (M+1)) (ju (M+1)) (BF (M+1)) (yj M n x) w1)):=λw1 y=>H.out x (aC C) w1 (e.out.1.trans (y.mono N));obtain⟨o,A⟩:∃o,yj M n x=o:=⟨_,rfl⟩;rw[A]at G;have S:=aj A;have bc:aW<wr.heap.size:=by omega
   clear r C A aT;cases n with
   | zero=>exact aA.elim
   | succ n=>
   obtain⟨aY,aZ,a0,a1⟩:=aA;have J:dd (n+1) x=.agg #[.int .i64 x.1.1,.int .i64 x.1.2.1,.string x.1.2.2,.slice x.2.1.1 x.2.2.length x.2.1.2]:=rfl;rw[J]at G;clear J;have a7:(0:Int)<=(k:Int):=by omega
   have a8:(k:Int)<(len:Int):=by omega
   go_wp2_with fail;refine(G.out _ aI).mono ?_;rintro a4 h ⟨d,aX,rfl,j⟩;have F:Hid (ag wr h):=aI.trans (j.out.1.mono (by simp));have ad:wr.heap.size<=h.heap.size:=F.out.size;have ab:Value.agg (eE (M+1) d).toArray=.agg #[.int .i64 d.1.1.1.1,.int .i64 d.1.1.1.2.1,.string d.1.1.1.2.2,.slice d.1.1.2.1.1 d.1.1.2.2.length d.1.1.2.1.2,.int .i64 d.1.2.1.1.1,.int .i64 d.1.2.1.1.2.1,.string d.1.2.1.1.2.2,.slice d.1.2.1.2.1.1 d.1.2.1.2.2.length d.1.2.1.2.1.2,.slice d.2.1.1 d.2.2.length d.2.1.2,.int .i64 d.1.2.2.1.1,.int .i64 d.1.2.2.1.2.1,.string d.1.2.2.1.2.2,.slice d.1.2.2.2.1.1 d.1.2.2.2.2.length d.1.2.2.2.1.2]:=rfl;rw[ab];clear ab G aY aZ a0 a1;cases aX
   ·have L:Hid (kJ 13 (eE (M+1)) (gE (M+1)) (ju (M+1)) (BF (M+1)) (cw (yj M (n+1)) p) w (.returned (.tuple #[.slice none 0 0,.bool false])) (h.alloc (.cells #[.int .i64 d.1.1.1.1,.int .i64 d.1.1.1.2.1,.string d.1.1.1.2.2,.slice d.1.1.2.1.1 d.1.1.2.2.length d.1.1.2.1.2,.int .i64 d.1.2.1.1.1,.int .i64 d.1.2.1.1.2.1,.string d.1.2.1.1.2.2,.slice d.1.2.1.2.1.1 d.1.2.1.2.2.length d.1.2.1.2.1.2,.slice d.2.1.1 d.2.2.length d.2.1.2,.int .i64 d.1.2.2.1.1,.int .i64 d.1.2.2.1.2.1,.string d.1.2.2.1.2.2,.slice d.1.2.2.2.1.1 d.1.2.2.2.2.length d.1.2.2.2.1.2] 147))):=by
      have ao:cw (yj M (n+1)) p=none:=lq _ p k x Z.out (by
       have y:=j.out.2.1;rw[S.out];cases o with
       | none=>rfl
       | some i=>cases y)
      have z:ag w h:=e.out.1.trans (F.out.mono N);refine⟨[],none,0,false,rfl,z.trans (aI.mono z.size),by rw[ao];rfl,⟨ai _,aB _⟩,ae rfl,ae rfl,λi l=>by rw[ao]at l;cases l⟩
    clear j e;go_wp2_with fail;exact ap (v:=.tuple #[.slice none 0 0,.bool false]) (by simp[results,Tryz.results125,go_sem]) rfl L.out
   ·have X:=λ(P Q:Obj)(g c:Nat)(R:World) aS aP aN=>aj (eL.step q.out (T:=147) (w1:=(h.alloc P).alloc Q) (w2:=R) (g:=g) (c:=c) e.out (aB _) N (F.out.trans ((aI.trans (aI.mono (by simp))).mono ad)) d (q.out.mono (by simp;omega) (q.out.below (aI.trans (aI.mono (by simp))) j.out.2.2.1)) (q.out.1 _ _ _ (λb z=>af (by simp at z;omega)) j.out.2.2.2.1) aS aP aN);have U:=λ(P Q:Obj)=>aj (dE e.out.2.1 (F.out.trans ((aI.trans (aI.mono (by simp)):ag h ((h.alloc P).alloc Q)).mono ad)));rw[s.out]at X U;go_wp2_with (at_builtin;refine wpList_append_lies _ rfl _ _ 136 rfl w.heap.size 147 aV _ 13 192 Tryz.underlying136 I.out.1 I.out.2.1 I.out.2.2.1 I.out.2.2.2 rfl (by decide) (.slice D k K) k (m.flatMap (eE (M+1))) (by simp[Act.eval]) (U _ _).out ⟨h.heap.size+1,0,none⟩ 1 1 (eE (M+1) d) (by simp[Act.eval]) rfl (World.news_of_block (cs:= #[.int .i64 d.1.1.1.1,.int .i64 d.1.1.1.2.1,.string d.1.1.1.2.2,.slice d.1.1.2.1.1 d.1.1.2.2.length d.1.1.2.1.2,.int .i64 d.1.2.1.1.1,.int .i64 d.1.2.1.1.2.1,.string d.1.2.1.1.2.2,.slice d.1.2.1.2.1.1 d.1.2.1.2.2.length d.1.2.1.2.1.2,.slice d.2.1.1 d.2.2.length d.2.1.2,.int .i64 d.1.2.2.1.1,.int .i64 d.1.2.2.1.2.1,.string d.1.2.2.1.2.2,.slice d.1.2.2.2.1.1 d.1.2.2.2.2.length d.1.2.2.2.1.2]) (t:=147) (fr:=(0,0)) (by have u:=ax (h.alloc (.cells #[.int .i64 d.1.1.1.1,.int .i64 d.1.1.1.2.1,.string d.1.1.1.2.2,.slice d.1.1.2.1.1 d.1.1.2.2.length d.1.1.2.1.2,.int .i64 d.1.2.1.1.1,.int .i64 d.1.2.1.1.2.1,.string d.1.2.1.1.2.2,.slice d.1.2.1.2.1.1 d.1.2.1.2.2.length d.1.2.1.2.1.2,.slice d.2.1.1 d.2.2.length d.2.1.2,.int .i64 d.1.2.2.1.1,.int .i64 d.1.2.2.1.2.1,.string d.1.2.2.1.2.2,.slice d.1.2.2.2.1.1 d.1.2.2.2.2.length d.1.2.2.2.1.2] 147)) (.cells #[.int .i64 d.1.1.1.1,.int .i64 d.1.1.1.2.1,.string d.1.1.1.2.2,.slice d.1.1.2.1.1 d.1.1.2.2.length d.1.1.2.1.2,.int .i64 d.1.2.1.1.1,.int .i64 d.1.2.1.1.2.1,.string d.1.2.1.1.2.2,.slice d.1.2.1.2.1.1 d.1.2.1.2.2.length d.1.2.1.2.1.2,.slice d.2.1.1 d.2.2.length d.2.1.2,.int .i64 d.1.2.2.1.1,.int .i64 d.1.2.2.1.2.1,.string d.1.2.2.1.2.2,.slice d.1.2.2.2.1.1 d.1.2.2.2.2.length d.1.2.2.2.1.2] 147);simp only[gC]at u;exact u)) (G9 _ _) (by decide) (by unfold maxLen;omega) (by omega) (by simp;omega) (h.heap.size+1+1) (by simp) ?_;intro aL aJ R ar am al ba;have aH:=X _ _ aL aJ R ar am (by simpa using al);clear ar am al);have aF:Hid (∃i,o=some i/\BF (M+1) d i):=by
     have y:=j.out.2.1;cases o with
     | none=>cases y
     | some i=>exact⟨i,rfl,j.out.2.2.2.2 i rfl⟩
    obtain⟨i,l,aU⟩:=aF.out;have aG:=aj (S.out.trans l);go_roundw
    case rel=>exact⟨k+1,_,by omega,by go_num,rfl,m++ [d],E++ [i],by simp[s.out],aH.out,qX _ _ _ _ Z.out _ _ Y.out aG.out,W.out.snoc aU⟩
    case measure=>simp[intOf];omega
  ·have L:Hid (kJ 13 (eE (M+1)) (gE (M+1)) (ju (M+1)) (BF (M+1)) (cw (yj M n) p) w (.returned (.tuple #[.slice D k K,.bool true])) wr):=by
     have ak:cw (yj M n) p=some E:=by have u:=Y.out;rw[bw (by rw[au.out];omega)]at u;exact u
     obtain⟨a2,a3,aa,aO,aQ,A⟩:=eL.lay (f:=eE (M+1)) (k:=13) q.out (λ_=>rfl) e.out;rw[s.out]at aa;injection aa with aK a5 J;subst aK J;refine⟨m,D,K,true,by rw[s.out],e.out.1,by rw[ak];rfl,aO,aQ,?_,λi l=>by rw[ak]at l;obtain rfl:=aq l;exact W.out⟩;exact(cq q.out 13 (eE (M+1)) D).1 _ _ _ (λb z=>by omega) A
   clear e;go_wp2_with fail;exact ap (v:=.tuple #[.slice D k K,.bool true]) (by simp[results,Tryz.results125,go_sem]) rfl L.out
theorem vi:(Tryz.prog.info? 138).map (λi=>(i.zero,i.size,i.bytes))=some (some (.agg #[.string .empty,.slice none 0 0]),2,40):=by kernel_rfl
theorem Ke(n:Nat)(y:Bh n):∀a∈oM n y,a.oneCell'=true:=nz rfl
theorem pG(M n:Nat)(p:List (Tm n))(len:Nat)(au:Hid (p.length=len))(a9:len<=8)(a:Option Addr)(pc B:Nat)(w:World)(r:Hid (fe B w n p a))(aM:B<=w.heap.size)(H:Hid (∀x∈p,∀w1,ag w w1->ah 92 #[dd n x] w1 (pZ (oM (M+1)) (oJ (M+1)) (jt (M+1)) (xk (M+1)) (yh M n x) w1))):ah 91 #[.slice a len pc,.func (Fn.func 92) #[] #[]] w (kJ 2 (oM (M+1)) (oJ (M+1)) (jt (M+1)) (xk (M+1)) (cw (yh M n) p) w):=by
 obtain⟨aV,an,av,aw,ay⟩:=bO vi;have I:=aj (⟨an,av,aw,ay⟩:_/\_/\_/\_);clear an av aw ay;have q:=aj (dI (M+1));go_enter Tryz.func91,Tryz.ntmps91;go_wp2_with fail;go_loopw [6,13] (λv O wr=>∃(k:Nat)(aE:Value),k<=len/\O=.int .i64 k/\aE=v/\Hid (NW (oJ (M+1)) (jt (M+1)) (xk (M+1)) (oM (M+1)) 2 138 (yh M n) p w k aE wr)) (λ_ O _=>len-(intOf O).toNat)
 case atStart=>exact⟨0,_,by omega,rfl,rfl,[],[],rfl,eL.nil _,by simp[cw],eu.nil⟩
 case round=>
  obtain⟨k,v,a6,rfl,rfl,V⟩:=hrel;obtain⟨m,E,s,e,Y,W⟩:∃(m E:List (Bh (M+1))),Hid (m.length=k)/\Hid (eL (oJ (M+1)) (jt (M+1)) (oM (M+1)) 2 138 0 w.heap.size m v w wr)/\Hid (cw (yh M n) (p.take k)=some E)/\Hid (eu (xk (M+1)) m E):=V.out;clear V;have N:w.heap.size<=wr.heap.size:=e.out.1.size;obtain⟨D,K,az⟩:=e.out.slice;rw[s.out]at az;subst az;by_cases aR:k<len
  ·obtain⟨x,C⟩:∃x,p[k]?=some x:=⟨p[k]'(by rw[au.out];exact aR),aD _⟩;have Z:=aj C;rcases(r.out.below (e.out.1.mono aM))with r|⟨aW,po,rfl,bb,r⟩
   ·subst r;simp at C
   obtain⟨aA,aT⟩:=r k x C;have G:Hid (∀w1,ag wr w1->ah 92 #[dd n x] w1 (pZ (oM (M+1)) (oJ (M+1)) (jt (M+1)) (xk (M+1)) (yh M n x) w1)):=λw1 y=>H.out x (aC C) w1 (e.out.1.trans (y.mono N));obtain⟨o,A⟩:∃o,yh M n x=o:=⟨_,rfl⟩;rw[A]at G;have S:=aj A;have bc:aW<wr.heap.size:=by omega
   clear r C A aT;cases n with
   | zero=>exact aA.elim
   | succ n=>
   obtain⟨aY,aZ,a0,a1⟩:=aA;have J:dd (n+1) x=.agg #[.int .i64 x.1.1,.int .i64 x.1.2.1,.string x.1.2.2,.slice x.2.1.1 x.2.2.length x.2.1.2]:=rfl;rw[J]at G;clear J;have a7:(0:Int)<=(k:Int):=by omega
   have a8:(k:Int)<(len:Int):=by omega
   go_wp2_with fail;refine(G.out _ aI).mono ?_;rintro a4 h ⟨d,aX,rfl,j⟩;have F:Hid (ag wr h):=aI.trans (j.out.1.mono (by simp));have ad:wr.heap.size<=h.heap.size:=F.out.size;have ab:Value.agg (oM (M+1) d).toArray=.agg #[.string d.1,.slice d.2.1.1 d.2.2.length d.2.1.2]:=rfl;rw[ab];clear ab G aY aZ a0 a1;cases aX
   ·have L:Hid (kJ 2 (oM (M+1)) (oJ (M+1)) (jt (M+1)) (xk (M+1)) (cw (yh M (n+1)) p) w (.returned (.tuple #[.slice none 0 0,.bool false])) (h.alloc (.cells #[.string d.1,.slice d.2.1.1 d.2.2.length d.2.1.2] 138))):=by
      have ao:cw (yh M (n+1)) p=none:=lq _ p k x Z.out (by
       have y:=j.out.2.1;rw[S.out];cases o with
       | none=>rfl
       | some i=>cases y)
      have z:ag w h:=e.out.1.trans (F.out.mono N);refine⟨[],none,0,false,rfl,z.trans (aI.mono z.size),by rw[ao];rfl,⟨ai _,aB _⟩,ae rfl,ae rfl,λi l=>by rw[ao]at l;cases l⟩
    clear j e;go_wp2_with fail;exact ap (v:=.tuple #[.slice none 0 0,.bool false]) (by simp[results,Tryz.results91,go_sem]) rfl L.out
   ·have X:=λ(P Q:Obj)(g c:Nat)(R:World) aS aP aN=>aj (eL.step q.out (T:=138) (w1:=(h.alloc P).alloc Q) (w2:=R) (g:=g) (c:=c) e.out (aB _) N (F.out.trans ((aI.trans (aI.mono (by simp))).mono ad)) d (q.out.mono (by simp;omega) (q.out.below (aI.trans (aI.mono (by simp))) j.out.2.2.1)) (q.out.1 _ _ _ (λb z=>af (by simp at z;omega)) j.out.2.2.2.1) aS aP aN);have U:=λ(P Q:Obj)=>aj (dE e.out.2.1 (F.out.trans ((aI.trans (aI.mono (by simp)):ag h ((h.alloc P).alloc Q)).mono ad)));rw[s.out]at X U;go_wp2_with (at_builtin;refine wpList_append_lies _ rfl _ _ 22 rfl w.heap.size 138 aV _ 2 40 Tryz.underlying22 I.out.1 I.out.2.1 I.out.2.2.1 I.out.2.2.2 rfl (by decide) (.slice D k K) k (m.flatMap (oM (M+1))) (by simp[Act.eval]) (U _ _).out ⟨h.heap.size+1,0,none⟩ 1 1 (oM (M+1) d) (by simp[Act.eval]) rfl (World.news_of_block (cs:= #[.string d.1,.slice d.2.1.1 d.2.2.length d.2.1.2]) (t:=138) (fr:=(0,0)) (by have u:=ax (h.alloc (.cells #[.string d.1,.slice d.2.1.1 d.2.2.length d.2.1.2] 138)) (.cells #[.string d.1,.slice d.2.1.1 d.2.2.length d.2.1.2] 138);simp only[gC]at u;exact u)) (Ke _ _) (by decide) (by unfold maxLen;omega) (by omega) (by simp;omega) (h.heap.size+1+1) (by simp) ?_;intro aL aJ R ar am al ba;have aH:=X _ _ aL aJ R ar am (by simpa using al);clear ar am al);have aF:Hid (∃i,o=some i/\xk (M+1) d i):=by
     have y:=j.out.2.1;cases o with
     | none=>cases y
     | some i=>exact⟨i,rfl,j.out.2.2.2.2 i rfl⟩
    obtain⟨i,l,aU⟩:=aF.out;have aG:=aj (S.out.trans l);go_roundw
    case rel=>exact⟨k+1,_,by omega,by go_num,rfl,m++ [d],E++ [i],by simp[s.out],aH.out,qX _ _ _ _ Z.out _ _ Y.out aG.out,W.out.snoc aU⟩
    case measure=>simp[intOf];omega
  ·have L:Hid (kJ 2 (oM (M+1)) (oJ (M+1)) (jt (M+1)) (xk (M+1)) (cw (yh M n) p) w (.returned (.tuple #[.slice D k K,.bool true])) wr):=by
     have ak:cw (yh M n) p=some E:=by have u:=Y.out;rw[bw (by rw[au.out];omega)]at u;exact u
     obtain⟨a2,a3,aa,aO,aQ,A⟩:=eL.lay (f:=oM (M+1)) (k:=2) q.out (λ_=>rfl) e.out;rw[s.out]at aa;injection aa with aK a5 J;subst aK J;refine⟨m,D,K,true,by rw[s.out],e.out.1,by rw[ak];rfl,aO,aQ,?_,λi l=>by rw[ak]at l;obtain rfl:=aq l;exact W.out⟩;exact(cq q.out 2 (oM (M+1)) D).1 _ _ _ (λb z=>by omega) A
   clear e;go_wp2_with fail;exact ap (v:=.tuple #[.slice D k K,.bool true]) (by simp[results,Tryz.results91,go_sem]) rfl L.out
end Go.Proofs.YtckamaoibonjcaaGreat
