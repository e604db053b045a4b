/- What is proved here: code.readAll at acts, clauses and behaviours, from what the reader of one does: what it returns is a new row of what is read, or false where one can't be. Condition: at most 8 terms. -/
import Derived.Test.YtmbjgiaebneodaaGreatG33
namespace Go.Proofs.YtmbjgiaebneodaaGreat
open Go.RowKit
set_option maxHeartbeats 4000000
set_option maxRecDepth 100000
theorem mJ{l:List Value}(a:l.all (λu=>u.oneCell')=true):∀u∈l,u.oneCell'=true:=λu b=>by
 rw[bT]at a;exact a u b
def Lv{a:Type}{n:Nat}(I:Nat->World->a->Prop)(d:(Nat->Prop)->a->Prop)(S:a->a->Prop)(f:a->List Value)(e:Nat)(T:TypeId)(g:Tm n->Option a)(p:List (Tm n))(w:World)(k:Nat)(v:Value)(wr:World):Prop:=
 ∃(b c:List a),b.length=k/\eI I d f e T 0 w.heap.size b v w wr/\cB g (p.take k)=some c/\dv S b c
theorem eI.slice{b:Type}{I:Nat->World->b->Prop}{d:(Nat->Prop)->b->Prop}{f:b->List Value}{k:Nat}{T:TypeId}{B base:Nat}{xs:List b}{v:Value}{w0 wr:World}(e:eI I d f k T B base xs v w0 wr):∃a c,v=.slice a xs.length c:=by
 rcases e.2.1.2 with⟨rfl,g⟩|⟨i,cap,h,rfl,_⟩
 ·exact⟨none,0,by rw[g]⟩
 ·exact⟨_,_,rfl⟩
theorem Il:(Tryz.prog.info? 74).map (λi=>(i.zero,i.size,i.bytes))=some (some (.agg #[.int .i64 0,.int .i64 0,.int .i64 0,.string .empty,.slice none 0 0,.int .i64 0,.int .i64 0,.string .empty,.slice none 0 0,.string .empty,.int .i64 0]),11,144):=by kernel_rfl
theorem EM(n:Nat)(y:Ac n):∀u∈fm n y,u.oneCell'=true:=mJ rfl
theorem wK(M n:Nat)(p:List (Tm n))(len:Nat)(ap:Hid (p.length=len))(a7:len<=8)(a:Option Addr)(pc B:Nat)(w:World)(r:Hid (eS B w n p a))(aK:B<=w.heap.size)(H:Hid (∀x∈p,∀w1,Below w.heap.size w w1->Calls Tryz.prog 115 #[de n x] w1 (o8 (fm (M+1)) (gE (M+1)) (kF (M+1)) (zZ (M+1)) (qz M n x) w1))):Calls Tryz.prog 114 #[.slice a len pc,.func (Fn.func 115) #[] #[]] w (kh 11 (fm (M+1)) (gE (M+1)) (kF (M+1)) (zZ (M+1)) (cB (qz M n) p) w):=by
 obtain⟨aT,al,ar,au,av⟩:=bN Il;have I:=ai (⟨al,ar,au,av⟩:_/\_/\_/\_);clear al ar au av;have q:=ai (eU (M+1));go_enter Tryz.func114,Tryz.ntmps114;go_wp2_with fail;go_loopw [6,13] (λv O wr=>∃(k:Nat)(aB:Value),k<=len/\O=.int .i64 k/\aB=v/\Hid (Lv (gE (M+1)) (kF (M+1)) (zZ (M+1)) (fm (M+1)) 11 74 (qz M n) p w k aB wr)) (λ_ O _=>len-(intOf O).toNat)
 case atStart=>exact⟨0,_,by omega,rfl,rfl,[],[],rfl,eI.nil _,by simp[cB],dv.nil⟩
 case round=>
  obtain⟨k,v,a4,rfl,rfl,V⟩:=hrel;obtain⟨m,E,s,e,Y,W⟩:∃(m E:List (Ac (M+1))),Hid (m.length=k)/\Hid (eI (gE (M+1)) (kF (M+1)) (fm (M+1)) 11 74 0 w.heap.size m v w wr)/\Hid (cB (qz M n) (p.take k)=some E)/\Hid (dv (zZ (M+1)) m E):=V.out;clear V;have N:w.heap.size<=wr.heap.size:=e.out.1.size;obtain⟨D,K,aw⟩:=e.out.slice;rw[s.out]at aw;subst aw;by_cases aP:k<len
  ·obtain⟨x,C⟩:∃x,p[k]?=some x:=⟨p[k]'(by rw[ap.out];exact aP),az _⟩;have Z:=ai C;rcases(r.out.below (e.out.1.mono aK))with r|⟨aU,po,rfl,a9,r⟩
   ·subst r;simp at C
   obtain⟨aA,aR⟩:=r k x C;have G:Hid (∀w1,Below wr.heap.size wr w1->Calls Tryz.prog 115 #[de n x] w1 (o8 (fm (M+1)) (gE (M+1)) (kF (M+1)) (zZ (M+1)) (qz M n x) w1)):=λw1 y=>H.out x (ax C) w1 (e.out.1.trans (y.mono N));obtain⟨o,A⟩:∃o,qz M n x=o:=⟨_,rfl⟩;rw[A]at G;have S:=ai A;have ba:aU<wr.heap.size:=by omega
   clear r C A aR;cases n with
   | zero=>exact aA.elim
   | succ n=>
   obtain⟨aW,aX,aY,aZ⟩:=aA;have J:de (n+1) x=.agg #[.int .i64 x.1.1,.int .i64 x.1.2.1,.string x.1.2.2,.slice x.2.1.1 x.2.2.length x.2.1.2]:=rfl;rw[J]at G;clear J;have a5:(0:Int)<=(k:Int):=by omega
   have a6:(k:Int)<(len:Int):=by omega
   go_wp2_with fail;refine(G.out _ aG).mono ?_;rintro a2 h ⟨d,aV,rfl,j⟩;have F:Hid (Below wr.heap.size wr h):=aG.trans (j.out.1.mono (by simp));have ad:wr.heap.size<=h.heap.size:=F.out.size;have ab:Value.agg (fm (M+1) d).toArray=.agg #[.int .i64 d.1,.int .i64 d.2.1.1.1.1,.int .i64 d.2.1.1.1.2.1,.string d.2.1.1.1.2.2,.slice d.2.1.1.2.1.1 d.2.1.1.2.2.length d.2.1.1.2.1.2,.int .i64 d.2.1.2.1.1,.int .i64 d.2.1.2.1.2.1,.string d.2.1.2.1.2.2,.slice d.2.1.2.2.1.1 d.2.1.2.2.2.length d.2.1.2.2.1.2,.string d.2.2.1,.int .i64 d.2.2.2]:=rfl;rw[ab];clear ab G aW aX aY aZ;cases aV
   ·have L:Hid (kh 11 (fm (M+1)) (gE (M+1)) (kF (M+1)) (zZ (M+1)) (cB (qz M (n+1)) p) w (.returned (.tuple #[.slice none 0 0,.bool false])) (h.alloc (.cells #[.int .i64 d.1,.int .i64 d.2.1.1.1.1,.int .i64 d.2.1.1.1.2.1,.string d.2.1.1.1.2.2,.slice d.2.1.1.2.1.1 d.2.1.1.2.2.length d.2.1.1.2.1.2,.int .i64 d.2.1.2.1.1,.int .i64 d.2.1.2.1.2.1,.string d.2.1.2.1.2.2,.slice d.2.1.2.2.1.1 d.2.1.2.2.2.length d.2.1.2.2.1.2,.string d.2.2.1,.int .i64 d.2.2.2] 74))):=by
      have am:cB (qz M (n+1)) p=none:=kJ _ p k x Z.out (by
       have y:=j.out.2.1;rw[S.out];cases o with
       | none=>rfl
       | some i=>cases y)
      have z:Below w.heap.size w h:=e.out.1.trans (F.out.mono N);refine⟨[],none,0,false,rfl,z.trans (aG.mono z.size),by rw[am];rfl,⟨ag _,aD _⟩,ae rfl,ae rfl,λi l=>by rw[am]at l;cases l⟩
    clear j e;go_wp2_with fail;exact ao (v:=.tuple #[.slice none 0 0,.bool false]) (by simp[results,Tryz.results114,go_sem]) rfl L.out
   ·have X:=λ(P Q:Obj)(g c:Nat)(R:World) aQ aN aL=>ai (eI.step q.out (T:=74) (w1:=(h.alloc P).alloc Q) (w2:=R) (g:=g) (c:=c) e.out (aD _) N (F.out.trans ((aG.trans (aG.mono (by simp))).mono ad)) d (q.out.mono (by simp;omega) (q.out.below (aG.trans (aG.mono (by simp))) j.out.2.2.1)) (q.out.1 _ _ _ (λb z=>af (by simp at z;omega)) j.out.2.2.2.1) aQ aN aL);have U:=λ(P Q:Obj)=>ai (dC e.out.2.1 (F.out.trans ((aG.trans (aG.mono (by simp)):Below h.heap.size h ((h.alloc P).alloc Q)).mono ad)));rw[s.out]at X U;go_wp2_with (at_builtin;refine wpList_append_lies _ rfl _ _ 75 rfl w.heap.size 74 aT _ 11 144 Tryz.underlying75 I.out.1 I.out.2.1 I.out.2.2.1 I.out.2.2.2 rfl (by decide) (.slice D k K) k (m.flatMap (fm (M+1))) (by simp[Act.eval]) (U _ _).out ⟨h.heap.size+1,0,none⟩ 1 1 (fm (M+1) d) (by simp[Act.eval]) rfl (World.news_of_block (cs:= #[.int .i64 d.1,.int .i64 d.2.1.1.1.1,.int .i64 d.2.1.1.1.2.1,.string d.2.1.1.1.2.2,.slice d.2.1.1.2.1.1 d.2.1.1.2.2.length d.2.1.1.2.1.2,.int .i64 d.2.1.2.1.1,.int .i64 d.2.1.2.1.2.1,.string d.2.1.2.1.2.2,.slice d.2.1.2.2.1.1 d.2.1.2.2.2.length d.2.1.2.2.1.2,.string d.2.2.1,.int .i64 d.2.2.2]) (t:=74) (fr:=(0,0)) (by have u:=ay (h.alloc (.cells #[.int .i64 d.1,.int .i64 d.2.1.1.1.1,.int .i64 d.2.1.1.1.2.1,.string d.2.1.1.1.2.2,.slice d.2.1.1.2.1.1 d.2.1.1.2.2.length d.2.1.1.2.1.2,.int .i64 d.2.1.2.1.1,.int .i64 d.2.1.2.1.2.1,.string d.2.1.2.1.2.2,.slice d.2.1.2.2.1.1 d.2.1.2.2.2.length d.2.1.2.2.1.2,.string d.2.2.1,.int .i64 d.2.2.2] 74)) (.cells #[.int .i64 d.1,.int .i64 d.2.1.1.1.1,.int .i64 d.2.1.1.1.2.1,.string d.2.1.1.1.2.2,.slice d.2.1.1.2.1.1 d.2.1.1.2.2.length d.2.1.1.2.1.2,.int .i64 d.2.1.2.1.1,.int .i64 d.2.1.2.1.2.1,.string d.2.1.2.1.2.2,.slice d.2.1.2.2.1.1 d.2.1.2.2.2.length d.2.1.2.2.1.2,.string d.2.2.1,.int .i64 d.2.2.2] 74);simp only[iN]at u;exact u)) (EM _ _) (by decide) (by unfold maxLen;omega) (by omega) (by simp;omega) (h.heap.size+1+1) (by simp) ?_;intro aJ aH R an ak aj a8;have aF:=X _ _ aJ aH R an ak (by simpa using aj);clear an ak aj);have aC:Hid (∃i,o=some i/\zZ (M+1) d i):=by
     have y:=j.out.2.1;cases o with
     | none=>cases y
     | some i=>exact⟨i,rfl,j.out.2.2.2.2 i rfl⟩
    obtain⟨i,l,aS⟩:=aC.out;have aE:=ai (S.out.trans l);go_roundw
    case rel=>exact⟨k+1,_,by omega,by go_num,rfl,m++ [d],E++ [i],by simp[s.out],aF.out,qe _ _ _ _ Z.out _ _ Y.out aE.out,W.out.snoc aS⟩
    case measure=>simp[intOf];omega
  ·have L:Hid (kh 11 (fm (M+1)) (gE (M+1)) (kF (M+1)) (zZ (M+1)) (cB (qz M n) p) w (.returned (.tuple #[.slice D k K,.bool true])) wr):=by
     have ah:cB (qz M n) p=some E:=by have u:=Y.out;rw[bk (by rw[ap.out];omega)]at u;exact u
     obtain⟨a0,a1,aa,aM,aO,A⟩:=eI.lay (f:=fm (M+1)) (k:=11) q.out (λ_=>rfl) e.out;rw[s.out]at aa;injection aa with aI a3 J;subst aI J;refine⟨m,D,K,true,by rw[s.out],e.out.1,by rw[ah];rfl,aM,aO,?_,λi l=>by rw[ah]at l;obtain rfl:=aq l;exact W.out⟩;exact(bZ q.out 11 (fm (M+1)) D).1 _ _ _ (λb z=>by omega) A
   clear e;go_wp2_with fail;exact ao (v:=.tuple #[.slice D k K,.bool true]) (by simp[results,Tryz.results114,go_sem]) rfl L.out
theorem AE:(Tryz.prog.info? 77).map (λi=>(i.zero,i.size,i.bytes))=some (some (.agg #[.int .i64 0,.int .i64 0,.string .empty,.slice none 0 0,.int .i64 0,.int .i64 0,.string .empty,.slice none 0 0,.slice none 0 0,.int .i64 0,.int .i64 0,.string .empty,.slice none 0 0]),13,192):=by kernel_rfl
theorem E5(n:Nat)(y:Cl n):∀u∈et n y,u.oneCell'=true:=mJ rfl
theorem rG(M n:Nat)(p:List (Tm n))(len:Nat)(ap:Hid (p.length=len))(a7:len<=8)(a:Option Addr)(pc B:Nat)(w:World)(r:Hid (eS B w n p a))(aK:B<=w.heap.size)(H:Hid (∀x∈p,∀w1,Below w.heap.size w w1->Calls Tryz.prog 95 #[de n x] w1 (o8 (et (M+1)) (fW (M+1)) (ja (M+1)) (zW (M+1)) (wE M n x) w1))):Calls Tryz.prog 94 #[.slice a len pc,.func (Fn.func 95) #[] #[]] w (kh 13 (et (M+1)) (fW (M+1)) (ja (M+1)) (zW (M+1)) (cB (wE M n) p) w):=by
 obtain⟨aT,al,ar,au,av⟩:=bN AE;have I:=ai (⟨al,ar,au,av⟩:_/\_/\_/\_);clear al ar au av;have q:=ai (dU (M+1));go_enter Tryz.func94,Tryz.ntmps94;go_wp2_with fail;go_loopw [6,13] (λv O wr=>∃(k:Nat)(aB:Value),k<=len/\O=.int .i64 k/\aB=v/\Hid (Lv (fW (M+1)) (ja (M+1)) (zW (M+1)) (et (M+1)) 13 77 (wE M n) p w k aB wr)) (λ_ O _=>len-(intOf O).toNat)
 case atStart=>exact⟨0,_,by omega,rfl,rfl,[],[],rfl,eI.nil _,by simp[cB],dv.nil⟩
 case round=>
  obtain⟨k,v,a4,rfl,rfl,V⟩:=hrel;obtain⟨m,E,s,e,Y,W⟩:∃(m E:List (Cl (M+1))),Hid (m.length=k)/\Hid (eI (fW (M+1)) (ja (M+1)) (et (M+1)) 13 77 0 w.heap.size m v w wr)/\Hid (cB (wE M n) (p.take k)=some E)/\Hid (dv (zW (M+1)) m E):=V.out;clear V;have N:w.heap.size<=wr.heap.size:=e.out.1.size;obtain⟨D,K,aw⟩:=e.out.slice;rw[s.out]at aw;subst aw;by_cases aP:k<len
  ·obtain⟨x,C⟩:∃x,p[k]?=some x:=⟨p[k]'(by rw[ap.out];exact aP),az _⟩;have Z:=ai C;rcases(r.out.below (e.out.1.mono aK))with r|⟨aU,po,rfl,a9,r⟩
   ·subst r;simp at C
   obtain⟨aA,aR⟩:=r k x C;have G:Hid (∀w1,Below wr.heap.size wr w1->Calls Tryz.prog 95 #[de n x] w1 (o8 (et (M+1)) (fW (M+1)) (ja (M+1)) (zW (M+1)) (wE M n x) w1)):=λw1 y=>H.out x (ax C) w1 (e.out.1.trans (y.mono N));obtain⟨o,A⟩:∃o,wE M n x=o:=⟨_,rfl⟩;rw[A]at G;have S:=ai A;have ba:aU<wr.heap.size:=by omega
   clear r C A aR;cases n with
   | zero=>exact aA.elim
   | succ n=>
   obtain⟨aW,aX,aY,aZ⟩:=aA;have J:de (n+1) x=.agg #[.int .i64 x.1.1,.int .i64 x.1.2.1,.string x.1.2.2,.slice x.2.1.1 x.2.2.length x.2.1.2]:=rfl;rw[J]at G;clear J;have a5:(0:Int)<=(k:Int):=by omega
   have a6:(k:Int)<(len:Int):=by omega
   go_wp2_with fail;refine(G.out _ aG).mono ?_;rintro a2 h ⟨d,aV,rfl,j⟩;have F:Hid (Below wr.heap.size wr h):=aG.trans (j.out.1.mono (by simp));have ad:wr.heap.size<=h.heap.size:=F.out.size;have ab:Value.agg (et (M+1) d).toArray=.agg #[.int .i64 d.1.1.1.1,.int .i64 d.1.1.1.2.1,.string d.1.1.1.2.2,.slice d.1.1.2.1.1 d.1.1.2.2.length d.1.1.2.1.2,.int .i64 d.1.2.1.1.1,.int .i64 d.1.2.1.1.2.1,.string d.1.2.1.1.2.2,.slice d.1.2.1.2.1.1 d.1.2.1.2.2.length d.1.2.1.2.1.2,.slice d.2.1.1 d.2.2.length d.2.1.2,.int .i64 d.1.2.2.1.1,.int .i64 d.1.2.2.1.2.1,.string d.1.2.2.1.2.2,.slice d.1.2.2.2.1.1 d.1.2.2.2.2.length d.1.2.2.2.1.2]:=rfl;rw[ab];clear ab G aW aX aY aZ;cases aV
   ·have L:Hid (kh 13 (et (M+1)) (fW (M+1)) (ja (M+1)) (zW (M+1)) (cB (wE M (n+1)) p) w (.returned (.tuple #[.slice none 0 0,.bool false])) (h.alloc (.cells #[.int .i64 d.1.1.1.1,.int .i64 d.1.1.1.2.1,.string d.1.1.1.2.2,.slice d.1.1.2.1.1 d.1.1.2.2.length d.1.1.2.1.2,.int .i64 d.1.2.1.1.1,.int .i64 d.1.2.1.1.2.1,.string d.1.2.1.1.2.2,.slice d.1.2.1.2.1.1 d.1.2.1.2.2.length d.1.2.1.2.1.2,.slice d.2.1.1 d.2.2.length d.2.1.2,.int .i64 d.1.2.2.1.1,.int .i64 d.1.2.2.1.2.1,.string d.1.2.2.1.2.2,.slice d.1.2.2.2.1.1 d.1.2.2.2.2.length d.1.2.2.2.1.2] 77))):=by
      have am:cB (wE M (n+1)) p=none:=kJ _ p k x Z.out (by
       have y:=j.out.2.1;rw[S.out];cases o with
       | none=>rfl
       | some i=>cases y)
      have z:Below w.heap.size w h:=e.out.1.trans (F.out.mono N);refine⟨[],none,0,false,rfl,z.trans (aG.mono z.size),by rw[am];rfl,⟨ag _,aD _⟩,ae rfl,ae rfl,λi l=>by rw[am]at l;cases l⟩
    clear j e;go_wp2_with fail;exact ao (v:=.tuple #[.slice none 0 0,.bool false]) (by simp[results,Tryz.results94,go_sem]) rfl L.out
   ·have X:=λ(P Q:Obj)(g c:Nat)(R:World) aQ aN aL=>ai (eI.step q.out (T:=77) (w1:=(h.alloc P).alloc Q) (w2:=R) (g:=g) (c:=c) e.out (aD _) N (F.out.trans ((aG.trans (aG.mono (by simp))).mono ad)) d (q.out.mono (by simp;omega) (q.out.below (aG.trans (aG.mono (by simp))) j.out.2.2.1)) (q.out.1 _ _ _ (λb z=>af (by simp at z;omega)) j.out.2.2.2.1) aQ aN aL);have U:=λ(P Q:Obj)=>ai (dC e.out.2.1 (F.out.trans ((aG.trans (aG.mono (by simp)):Below h.heap.size h ((h.alloc P).alloc Q)).mono ad)));rw[s.out]at X U;go_wp2_with (at_builtin;refine wpList_append_lies _ rfl _ _ 78 rfl w.heap.size 77 aT _ 13 192 Tryz.underlying78 I.out.1 I.out.2.1 I.out.2.2.1 I.out.2.2.2 rfl (by decide) (.slice D k K) k (m.flatMap (et (M+1))) (by simp[Act.eval]) (U _ _).out ⟨h.heap.size+1,0,none⟩ 1 1 (et (M+1) d) (by simp[Act.eval]) rfl (World.news_of_block (cs:= #[.int .i64 d.1.1.1.1,.int .i64 d.1.1.1.2.1,.string d.1.1.1.2.2,.slice d.1.1.2.1.1 d.1.1.2.2.length d.1.1.2.1.2,.int .i64 d.1.2.1.1.1,.int .i64 d.1.2.1.1.2.1,.string d.1.2.1.1.2.2,.slice d.1.2.1.2.1.1 d.1.2.1.2.2.length d.1.2.1.2.1.2,.slice d.2.1.1 d.2.2.length d.2.1.2,.int .i64 d.1.2.2.1.1,.int .i64 d.1.2.2.1.2.1,.string d.1.2.2.1.2.2,.slice d.1.2.2.2.1.1 d.1.2.2.2.2.length d.1.2.2.2.1.2]) (t:=77) (fr:=(0,0)) (by have u:=ay (h.alloc (.cells #[.int .i64 d.1.1.1.1,.int .i64 d.1.1.1.2.1,.string d.1.1.1.2.2,.slice d.1.1.2.1.1 d.1.1.2.2.length d.1.1.2.1.2,.int .i64 d.1.2.1.1.1,.int .i64 d.1.2.1.1.2.1,.string d.1.2.1.1.2.2,.slice d.1.2.1.2.1.1 d.1.2.1.2.2.length d.1.2.1.2.1.2,.slice d.2.1.1 d.2.2.length d.2.1.2,.int .i64 d.1.2.2.1.1,.int .i64 d.1.2.2.1.2.1,.string d.1.2.2.1.2.2,.slice d.1.2.2.2.1.1 d.1.2.2.2.2.length d.1.2.2.2.1.2] 77)) (.cells #[.int .i64 d.1.1.1.1,.int .i64 d.1.1.1.2.1,.string d.1.1.1.2.2,.slice d.1.1.2.1.1 d.1.1.2.2.length d.1.1.2.1.2,.int .i64 d.1.2.1.1.1,.int .i64 d.1.2.1.1.2.1,.string d.1.2.1.1.2.2,.slice d.1.2.1.2.1.1 d.1.2.1.2.2.length d.1.2.1.2.1.2,.slice d.2.1.1 d.2.2.length d.2.1.2,.int .i64 d.1.2.2.1.1,.int .i64 d.1.2.2.1.2.1,.string d.1.2.2.1.2.2,.slice d.1.2.2.2.1.1 d.1.2.2.2.2.length d.1.2.2.2.1.2] 77);simp only[iN]at u;exact u)) (E5 _ _) (by decide) (by unfold maxLen;omega) (by omega) (by simp;omega) (h.heap.size+1+1) (by simp) ?_;intro aJ aH R an ak aj a8;have aF:=X _ _ aJ aH R an ak (by simpa using aj);clear an ak aj);have aC:Hid (∃i,o=some i/\zW (M+1) d i):=by
     have y:=j.out.2.1;cases o with
     | none=>cases y
     | some i=>exact⟨i,rfl,j.out.2.2.2.2 i rfl⟩
    obtain⟨i,l,aS⟩:=aC.out;have aE:=ai (S.out.trans l);go_roundw
    case rel=>exact⟨k+1,_,by omega,by go_num,rfl,m++ [d],E++ [i],by simp[s.out],aF.out,qe _ _ _ _ Z.out _ _ Y.out aE.out,W.out.snoc aS⟩
    case measure=>simp[intOf];omega
  ·have L:Hid (kh 13 (et (M+1)) (fW (M+1)) (ja (M+1)) (zW (M+1)) (cB (wE M n) p) w (.returned (.tuple #[.slice D k K,.bool true])) wr):=by
     have ah:cB (wE M n) p=some E:=by have u:=Y.out;rw[bk (by rw[ap.out];omega)]at u;exact u
     obtain⟨a0,a1,aa,aM,aO,A⟩:=eI.lay (f:=et (M+1)) (k:=13) q.out (λ_=>rfl) e.out;rw[s.out]at aa;injection aa with aI a3 J;subst aI J;refine⟨m,D,K,true,by rw[s.out],e.out.1,by rw[ah];rfl,aM,aO,?_,λi l=>by rw[ah]at l;obtain rfl:=aq l;exact W.out⟩;exact(bZ q.out 13 (et (M+1)) D).1 _ _ _ (λb z=>by omega) A
   clear e;go_wp2_with fail;exact ao (v:=.tuple #[.slice D k K,.bool true]) (by simp[results,Tryz.results94,go_sem]) rfl L.out
theorem ub:(Tryz.prog.info? 80).map (λi=>(i.zero,i.size,i.bytes))=some (some (.agg #[.string .empty,.slice none 0 0]),2,40):=by kernel_rfl
theorem Ho(n:Nat)(y:Bh n):∀u∈mW n y,u.oneCell'=true:=mJ rfl
theorem oJ(M n:Nat)(p:List (Tm n))(len:Nat)(ap:Hid (p.length=len))(a7:len<=8)(a:Option Addr)(pc B:Nat)(w:World)(r:Hid (eS B w n p a))(aK:B<=w.heap.size)(H:Hid (∀x∈p,∀w1,Below w.heap.size w w1->Calls Tryz.prog 75 #[de n x] w1 (o8 (mW (M+1)) (nQ (M+1)) (iZ (M+1)) (sk (M+1)) (wC M n x) w1))):Calls Tryz.prog 74 #[.slice a len pc,.func (Fn.func 75) #[] #[]] w (kh 2 (mW (M+1)) (nQ (M+1)) (iZ (M+1)) (sk (M+1)) (cB (wC M n) p) w):=by
 obtain⟨aT,al,ar,au,av⟩:=bN ub;have I:=ai (⟨al,ar,au,av⟩:_/\_/\_/\_);clear al ar au av;have q:=ai (dF (M+1));go_enter Tryz.func74,Tryz.ntmps74;go_wp2_with fail;go_loopw [6,13] (λv O wr=>∃(k:Nat)(aB:Value),k<=len/\O=.int .i64 k/\aB=v/\Hid (Lv (nQ (M+1)) (iZ (M+1)) (sk (M+1)) (mW (M+1)) 2 80 (wC M n) p w k aB wr)) (λ_ O _=>len-(intOf O).toNat)
 case atStart=>exact⟨0,_,by omega,rfl,rfl,[],[],rfl,eI.nil _,by simp[cB],dv.nil⟩
 case round=>
  obtain⟨k,v,a4,rfl,rfl,V⟩:=hrel;obtain⟨m,E,s,e,Y,W⟩:∃(m E:List (Bh (M+1))),Hid (m.length=k)/\Hid (eI (nQ (M+1)) (iZ (M+1)) (mW (M+1)) 2 80 0 w.heap.size m v w wr)/\Hid (cB (wC M n) (p.take k)=some E)/\Hid (dv (sk (M+1)) m E):=V.out;clear V;have N:w.heap.size<=wr.heap.size:=e.out.1.size;obtain⟨D,K,aw⟩:=e.out.slice;rw[s.out]at aw;subst aw;by_cases aP:k<len
  ·obtain⟨x,C⟩:∃x,p[k]?=some x:=⟨p[k]'(by rw[ap.out];exact aP),az _⟩;have Z:=ai C;rcases(r.out.below (e.out.1.mono aK))with r|⟨aU,po,rfl,a9,r⟩
   ·subst r;simp at C
   obtain⟨aA,aR⟩:=r k x C;have G:Hid (∀w1,Below wr.heap.size wr w1->Calls Tryz.prog 75 #[de n x] w1 (o8 (mW (M+1)) (nQ (M+1)) (iZ (M+1)) (sk (M+1)) (wC M n x) w1)):=λw1 y=>H.out x (ax C) w1 (e.out.1.trans (y.mono N));obtain⟨o,A⟩:∃o,wC M n x=o:=⟨_,rfl⟩;rw[A]at G;have S:=ai A;have ba:aU<wr.heap.size:=by omega
   clear r C A aR;cases n with
   | zero=>exact aA.elim
   | succ n=>
   obtain⟨aW,aX,aY,aZ⟩:=aA;have J:de (n+1) x=.agg #[.int .i64 x.1.1,.int .i64 x.1.2.1,.string x.1.2.2,.slice x.2.1.1 x.2.2.length x.2.1.2]:=rfl;rw[J]at G;clear J;have a5:(0:Int)<=(k:Int):=by omega
   have a6:(k:Int)<(len:Int):=by omega
   go_wp2_with fail;refine(G.out _ aG).mono ?_;rintro a2 h ⟨d,aV,rfl,j⟩;have F:Hid (Below wr.heap.size wr h):=aG.trans (j.out.1.mono (by simp));have ad:wr.heap.size<=h.heap.size:=F.out.size;have ab:Value.agg (mW (M+1) d).toArray=.agg #[.string d.1,.slice d.2.1.1 d.2.2.length d.2.1.2]:=rfl;rw[ab];clear ab G aW aX aY aZ;cases aV
   ·have L:Hid (kh 2 (mW (M+1)) (nQ (M+1)) (iZ (M+1)) (sk (M+1)) (cB (wC M (n+1)) p) w (.returned (.tuple #[.slice none 0 0,.bool false])) (h.alloc (.cells #[.string d.1,.slice d.2.1.1 d.2.2.length d.2.1.2] 80))):=by
      have am:cB (wC M (n+1)) p=none:=kJ _ p k x Z.out (by
       have y:=j.out.2.1;rw[S.out];cases o with
       | none=>rfl
       | some i=>cases y)
      have z:Below w.heap.size w h:=e.out.1.trans (F.out.mono N);refine⟨[],none,0,false,rfl,z.trans (aG.mono z.size),by rw[am];rfl,⟨ag _,aD _⟩,ae rfl,ae rfl,λi l=>by rw[am]at l;cases l⟩
    clear j e;go_wp2_with fail;exact ao (v:=.tuple #[.slice none 0 0,.bool false]) (by simp[results,Tryz.results74,go_sem]) rfl L.out
   ·have X:=λ(P Q:Obj)(g c:Nat)(R:World) aQ aN aL=>ai (eI.step q.out (T:=80) (w1:=(h.alloc P).alloc Q) (w2:=R) (g:=g) (c:=c) e.out (aD _) N (F.out.trans ((aG.trans (aG.mono (by simp))).mono ad)) d (q.out.mono (by simp;omega) (q.out.below (aG.trans (aG.mono (by simp))) j.out.2.2.1)) (q.out.1 _ _ _ (λb z=>af (by simp at z;omega)) j.out.2.2.2.1) aQ aN aL);have U:=λ(P Q:Obj)=>ai (dC e.out.2.1 (F.out.trans ((aG.trans (aG.mono (by simp)):Below h.heap.size h ((h.alloc P).alloc Q)).mono ad)));rw[s.out]at X U;go_wp2_with (at_builtin;refine wpList_append_lies _ rfl _ _ 22 rfl w.heap.size 80 aT _ 2 40 Tryz.underlying22 I.out.1 I.out.2.1 I.out.2.2.1 I.out.2.2.2 rfl (by decide) (.slice D k K) k (m.flatMap (mW (M+1))) (by simp[Act.eval]) (U _ _).out ⟨h.heap.size+1,0,none⟩ 1 1 (mW (M+1) d) (by simp[Act.eval]) rfl (World.news_of_block (cs:= #[.string d.1,.slice d.2.1.1 d.2.2.length d.2.1.2]) (t:=80) (fr:=(0,0)) (by have u:=ay (h.alloc (.cells #[.string d.1,.slice d.2.1.1 d.2.2.length d.2.1.2] 80)) (.cells #[.string d.1,.slice d.2.1.1 d.2.2.length d.2.1.2] 80);simp only[iN]at u;exact u)) (Ho _ _) (by decide) (by unfold maxLen;omega) (by omega) (by simp;omega) (h.heap.size+1+1) (by simp) ?_;intro aJ aH R an ak aj a8;have aF:=X _ _ aJ aH R an ak (by simpa using aj);clear an ak aj);have aC:Hid (∃i,o=some i/\sk (M+1) d i):=by
     have y:=j.out.2.1;cases o with
     | none=>cases y
     | some i=>exact⟨i,rfl,j.out.2.2.2.2 i rfl⟩
    obtain⟨i,l,aS⟩:=aC.out;have aE:=ai (S.out.trans l);go_roundw
    case rel=>exact⟨k+1,_,by omega,by go_num,rfl,m++ [d],E++ [i],by simp[s.out],aF.out,qe _ _ _ _ Z.out _ _ Y.out aE.out,W.out.snoc aS⟩
    case measure=>simp[intOf];omega
  ·have L:Hid (kh 2 (mW (M+1)) (nQ (M+1)) (iZ (M+1)) (sk (M+1)) (cB (wC M n) p) w (.returned (.tuple #[.slice D k K,.bool true])) wr):=by
     have ah:cB (wC M n) p=some E:=by have u:=Y.out;rw[bk (by rw[ap.out];omega)]at u;exact u
     obtain⟨a0,a1,aa,aM,aO,A⟩:=eI.lay (f:=mW (M+1)) (k:=2) q.out (λ_=>rfl) e.out;rw[s.out]at aa;injection aa with aI a3 J;subst aI J;refine⟨m,D,K,true,by rw[s.out],e.out.1,by rw[ah];rfl,aM,aO,?_,λi l=>by rw[ah]at l;obtain rfl:=aq l;exact W.out⟩;exact(bZ q.out 2 (mW (M+1)) D).1 _ _ _ (λb z=>by omega) A
   clear e;go_wp2_with fail;exact ao (v:=.tuple #[.slice D k K,.bool true]) (by simp[results,Tryz.results74,go_sem]) rfl L.out
end Go.Proofs.YtmbjgiaebneodaaGreat
