/- What is proved here: code.readAll at acts, clauses and behaviours, from what the reader of one does: what it returns is a new row of what is read, or false where one can't be. Condition: at most 8 terms. -/
import Derived.Test.YtmmahddlcldmiaaGreatJ26
namespace Go.Proofs.YtmmahddlcldmiaaGreat
open Go.RowKit Go.Proofs.Tryz
set_option maxHeartbeats 4000000
set_option maxRecDepth 100000
theorem ot{l:List Value}(a:l.all (λu=>u.oneCell')=true):∀u∈l,u.oneCell'=true:=λu b=>by
 rw[ci]at a;exact a u b
def PH{a:Type}{n:Nat}(d:Nat->World->a->Prop)(e:(Nat->Prop)->a->Prop)(S:a->a->Prop)(f:a->List Value)(h:Nat)(T:TypeId)(g:Tm n->Option a)(p:List (Tm n))(w:World)(k:Nat)(v:Value)(wr:World):Prop:=
 ∃(b c:List a),b.length=k/\fl d e f h T 0 w.heap.size b v w wr/\cJ g (p.take k)=some c/\eT S b c
theorem fl.slice{b:Type}{d:Nat->World->b->Prop}{e:(Nat->Prop)->b->Prop}{f:b->List Value}{k:Nat}{T:TypeId}{B base:Nat}{xs:List b}{v:Value}{w0 wr:World}(g:fl d e f k T B base xs v w0 wr):∃a c,v=ae a xs.length c:=by
 rcases g.2.1.2 with⟨rfl,h⟩|⟨j,cap,i,rfl,_⟩
 ·exact⟨none,0,by rw[h]⟩
 ·exact⟨_,_,rfl⟩
theorem Mp:(Tryz.prog.info? 248).map (λi=>(i.zero,i.size,i.bytes))=some (some (.agg #[ab 0,ab 0,ab 0,af .empty,ae none 0 0,ab 0,ab 0,af .empty,ae none 0 0,af .empty,ab 0]),11,144):=by kernel_rfl
theorem IV(n:Nat)(y:Ac n):∀u∈f9 n y,u.oneCell'=true:=ot rfl
theorem zM(M n:Nat)(p:List (Tm n))(len:Nat)(ax:Hid (p.length=len))(bc:len<=8)(a:Option Addr)(pc B:Nat)(w:World)(r:Hid (fH B w n p a))(aP:B<=w.heap.size)(H:Hid (∀x∈p,∀w1,aj w w1->ak 182 #[dq n x] w1 (qR (f9 (M+1)) (iE (M+1)) (lZ (M+1)) (CS (M+1)) (sF M n x) w1))):ak 181 #[ae a len pc,.func (Fn.func 182) #[] #[]] w (lF 11 (f9 (M+1)) (iE (M+1)) (lZ (M+1)) (CS (M+1)) (cJ (sF M n) p) w):=by
 obtain⟨aY,aq,ay,az,aB⟩:=bR Mp;have I:=ap (⟨aq,ay,az,aB⟩:_/\_/\_/\_);clear aq ay az aB;have q:=ap (fJ (M+1));go_enter func181,ntmps181;go_wp2_with fail;go_loopw [6,13] (λv O wr=>∃(k:Nat)(aE:Value),k<=len/\O=ab k/\aE=v/\Hid (PH (iE (M+1)) (lZ (M+1)) (CS (M+1)) (f9 (M+1)) 11 248 (sF M n) p w k aE wr)) (λ_ O _=>len-(intOf O).toNat)
 case atStart=>exact⟨0,_,by omega,rfl,rfl,[],[],rfl,fl.nil _,by simp[cJ],eT.nil⟩
 case round=>
  obtain⟨k,v,a9,rfl,rfl,V⟩:=hrel;obtain⟨m,E,s,e,Y,W⟩:∃(m E:List (Ac (M+1))),Hid (m.length=k)/\Hid (fl (iE (M+1)) (lZ (M+1)) (f9 (M+1)) 11 248 0 w.heap.size m v w wr)/\Hid (cJ (sF M n) (p.take k)=some E)/\Hid (eT (CS (M+1)) m E):=V.out;clear V;have N:w.heap.size<=wr.heap.size:=e.out.1.size;obtain⟨D,K,aC⟩:=e.out.slice;rw[s.out]at aC;subst aC;by_cases aU:k<len
  ·obtain⟨x,C⟩:∃x,p[k]?=some x:=⟨p[k]'(by rw[ax.out];exact aU),aI _⟩;have Z:=ap C;rcases(r.out.below (e.out.1.mono aP))with r|⟨aZ,po,rfl,be,r⟩
   ·subst r;simp at C
   obtain⟨aD,aW⟩:=r k x C;have G:Hid (∀w1,aj wr w1->ak 182 #[dq n x] w1 (qR (f9 (M+1)) (iE (M+1)) (lZ (M+1)) (CS (M+1)) (sF M n x) w1)):=λw1 y=>H.out x (aJ C) w1 (e.out.1.trans (y.mono N));obtain⟨o,A⟩:∃o,sF M n x=o:=⟨_,rfl⟩;rw[A]at G;have S:=ap A;have bf:aZ<wr.heap.size:=by omega
   clear r C A aW;cases n with
   | zero=>exact aD.elim
   | succ n=>
   obtain⟨a1,a2,a3,a4⟩:=aD;have J:dq (n+1) x=.agg #[ab x.1.1,ab x.1.2.1,af x.1.2.2,ae x.2.1.1 x.2.2.length x.2.1.2]:=rfl;rw[J]at G;clear J;have ba:(0:Int)<=(k:Int):=by omega
   have bb:(k:Int)<(len:Int):=by omega
   go_wp2_with fail;refine(G.out _ aO).mono ?_;rintro a7 h ⟨d,a0,rfl,j⟩;have F:Hid (aj wr h):=aO.trans (j.out.1.mono (by simp));have ag:wr.heap.size<=h.heap.size:=F.out.size;have ad:Value.agg (f9 (M+1) d).toArray=.agg #[ab d.1,ab d.2.1.1.1.1,ab d.2.1.1.1.2.1,af d.2.1.1.1.2.2,ae d.2.1.1.2.1.1 d.2.1.1.2.2.length d.2.1.1.2.1.2,ab d.2.1.2.1.1,ab d.2.1.2.1.2.1,af d.2.1.2.1.2.2,ae d.2.1.2.2.1.1 d.2.1.2.2.2.length d.2.1.2.2.1.2,af d.2.2.1,ab d.2.2.2]:=rfl;rw[ad];clear ad G a1 a2 a3 a4;cases a0
   ·have L:Hid (lF 11 (f9 (M+1)) (iE (M+1)) (lZ (M+1)) (CS (M+1)) (cJ (sF M (n+1)) p) w (.returned (.tuple #[ae none 0 0,.bool false])) (h.alloc (.cells #[ab d.1,ab d.2.1.1.1.1,ab d.2.1.1.1.2.1,af d.2.1.1.1.2.2,ae d.2.1.1.2.1.1 d.2.1.1.2.2.length d.2.1.1.2.1.2,ab d.2.1.2.1.1,ab d.2.1.2.1.2.1,af d.2.1.2.1.2.2,ae d.2.1.2.2.1.1 d.2.1.2.2.2.length d.2.1.2.2.1.2,af d.2.2.1,ab d.2.2.2] 248))):=by
      have ar:cJ (sF M (n+1)) p=none:=mf _ p k x Z.out (by
       have y:=j.out.2.1;rw[S.out];cases o with
       | none=>rfl
       | some i=>cases y)
      have z:aj w h:=e.out.1.trans (F.out.mono N);refine⟨[],none,0,false,rfl,z.trans (aO.mono z.size),by rw[ar];rfl,⟨am _,aH _⟩,ah rfl,ah rfl,λi l=>by rw[ar]at l;cases l⟩
    clear j e;go_wp2_with fail;exact av (v:=.tuple #[ae none 0 0,.bool false]) (by simp[results,results181,go_sem]) rfl L.out
   ·have X:=λ(P Q:Obj)(g c:Nat)(R:World) aV aS aQ=>ap (fl.step q.out (T:=248) (w1:=(h.alloc P).alloc Q) (w2:=R) (g:=g) (c:=c) e.out (aH _) N (F.out.trans ((aO.trans (aO.mono (by simp))).mono ag)) d (q.out.mono (by simp;omega) (q.out.below (aO.trans (aO.mono (by simp))) j.out.2.2.1)) (q.out.1 _ _ _ (λb z=>ai (by simp at z;omega)) j.out.2.2.2.1) aV aS aQ);have U:=λ(P Q:Obj)=>ap (dT e.out.2.1 (F.out.trans ((aO.trans (aO.mono (by simp)):aj h ((h.alloc P).alloc Q)).mono ag)));rw[s.out]at X U;go_wp2_with (at_builtin;refine wpList_append_lies _ rfl _ _ 160 rfl w.heap.size 248 aY _ 11 144 underlying160 I.out.1 I.out.2.1 I.out.2.2.1 I.out.2.2.2 rfl (by decide) (ae D k K) k (m.flatMap (f9 (M+1))) (by simp[Act.eval]) (U _ _).out ⟨h.heap.size+1,0,none⟩ 1 1 (f9 (M+1) d) (by simp[Act.eval]) rfl (World.news_of_block (cs:= #[ab d.1,ab d.2.1.1.1.1,ab d.2.1.1.1.2.1,af d.2.1.1.1.2.2,ae d.2.1.1.2.1.1 d.2.1.1.2.2.length d.2.1.1.2.1.2,ab d.2.1.2.1.1,ab d.2.1.2.1.2.1,af d.2.1.2.1.2.2,ae d.2.1.2.2.1.1 d.2.1.2.2.2.length d.2.1.2.2.1.2,af d.2.2.1,ab d.2.2.2]) (t:=248) (fr:=(0,0)) (by have u:=aA (h.alloc (.cells #[ab d.1,ab d.2.1.1.1.1,ab d.2.1.1.1.2.1,af d.2.1.1.1.2.2,ae d.2.1.1.2.1.1 d.2.1.1.2.2.length d.2.1.1.2.1.2,ab d.2.1.2.1.1,ab d.2.1.2.1.2.1,af d.2.1.2.1.2.2,ae d.2.1.2.2.1.1 d.2.1.2.2.2.length d.2.1.2.2.1.2,af d.2.2.1,ab d.2.2.2] 248)) (.cells #[ab d.1,ab d.2.1.1.1.1,ab d.2.1.1.1.2.1,af d.2.1.1.1.2.2,ae d.2.1.1.2.1.1 d.2.1.1.2.2.length d.2.1.1.2.1.2,ab d.2.1.2.1.1,ab d.2.1.2.1.2.1,af d.2.1.2.1.2.2,ae d.2.1.2.2.1.1 d.2.1.2.2.2.length d.2.1.2.2.1.2,af d.2.2.1,ab d.2.2.2] 248);simp only[iB]at u;exact u)) (IV _ _) (by decide) (by unfold maxLen;omega) (by omega) (by simp;omega) (h.heap.size+1+1) (by simp) ?_;intro aN aL R au ao an bd;have aK:=X _ _ aN aL R au ao (by simpa using an);clear au ao an);have aF:Hid (∃i,o=some i/\CS (M+1) d i):=by
     have y:=j.out.2.1;cases o with
     | none=>cases y
     | some i=>exact⟨i,rfl,j.out.2.2.2.2 i rfl⟩
    obtain⟨i,l,aX⟩:=aF.out;have aG:=ap (S.out.trans l);go_roundw
    case rel=>exact⟨k+1,_,by omega,by go_num,rfl,m++ [d],E++ [i],by simp[s.out],aK.out,r9 _ _ _ _ Z.out _ _ Y.out aG.out,W.out.snoc aX⟩
    case measure=>simp[intOf];omega
  ·have L:Hid (lF 11 (f9 (M+1)) (iE (M+1)) (lZ (M+1)) (CS (M+1)) (cJ (sF M n) p) w (.returned (.tuple #[ae D k K,.bool true])) wr):=by
     have al:cJ (sF M n) p=some E:=by have u:=Y.out;rw[bA (by rw[ax.out];omega)]at u;exact u
     obtain⟨a5,a6,aa,aR,aT,A⟩:=fl.lay (f:=f9 (M+1)) (k:=11) q.out (λ_=>rfl) e.out;rw[s.out]at aa;injection aa with aM a8 J;subst aM J;refine⟨m,D,K,true,by rw[s.out],e.out.1,by rw[al];rfl,aR,aT,?_,λi l=>by rw[al]at l;obtain rfl:=aw l;exact W.out⟩;exact(cG q.out 11 (f9 (M+1)) D).1 _ _ _ (λb z=>by omega) A
   clear e;go_wp2_with fail;exact av (v:=.tuple #[ae D k K,.bool true]) (by simp[results,results181,go_sem]) rfl L.out
theorem Dq:(Tryz.prog.info? 162).map (λi=>(i.zero,i.size,i.bytes))=some (some (.agg #[ab 0,ab 0,af .empty,ae none 0 0,ab 0,ab 0,af .empty,ae none 0 0,ae none 0 0,ab 0,ab 0,af .empty,ae none 0 0]),13,192):=by kernel_rfl
theorem Jb(n:Nat)(y:Cl n):∀u∈e9 n y,u.oneCell'=true:=ot rfl
theorem tN(M n:Nat)(p:List (Tm n))(len:Nat)(ax:Hid (p.length=len))(bc:len<=8)(a:Option Addr)(pc B:Nat)(w:World)(r:Hid (fH B w n p a))(aP:B<=w.heap.size)(H:Hid (∀x∈p,∀w1,aj w w1->ak 144 #[dq n x] w1 (qR (e9 (M+1)) (g8 (M+1)) (jT (M+1)) (CM (M+1)) (zF M n x) w1))):ak 143 #[ae a len pc,.func (Fn.func 144) #[] #[]] w (lF 13 (e9 (M+1)) (g8 (M+1)) (jT (M+1)) (CM (M+1)) (cJ (zF M n) p) w):=by
 obtain⟨aY,aq,ay,az,aB⟩:=bR Dq;have I:=ap (⟨aq,ay,az,aB⟩:_/\_/\_/\_);clear aq ay az aB;have q:=ap (ey (M+1));go_enter func143,ntmps143;go_wp2_with fail;go_loopw [6,13] (λv O wr=>∃(k:Nat)(aE:Value),k<=len/\O=ab k/\aE=v/\Hid (PH (g8 (M+1)) (jT (M+1)) (CM (M+1)) (e9 (M+1)) 13 162 (zF M n) p w k aE wr)) (λ_ O _=>len-(intOf O).toNat)
 case atStart=>exact⟨0,_,by omega,rfl,rfl,[],[],rfl,fl.nil _,by simp[cJ],eT.nil⟩
 case round=>
  obtain⟨k,v,a9,rfl,rfl,V⟩:=hrel;obtain⟨m,E,s,e,Y,W⟩:∃(m E:List (Cl (M+1))),Hid (m.length=k)/\Hid (fl (g8 (M+1)) (jT (M+1)) (e9 (M+1)) 13 162 0 w.heap.size m v w wr)/\Hid (cJ (zF M n) (p.take k)=some E)/\Hid (eT (CM (M+1)) m E):=V.out;clear V;have N:w.heap.size<=wr.heap.size:=e.out.1.size;obtain⟨D,K,aC⟩:=e.out.slice;rw[s.out]at aC;subst aC;by_cases aU:k<len
  ·obtain⟨x,C⟩:∃x,p[k]?=some x:=⟨p[k]'(by rw[ax.out];exact aU),aI _⟩;have Z:=ap C;rcases(r.out.below (e.out.1.mono aP))with r|⟨aZ,po,rfl,be,r⟩
   ·subst r;simp at C
   obtain⟨aD,aW⟩:=r k x C;have G:Hid (∀w1,aj wr w1->ak 144 #[dq n x] w1 (qR (e9 (M+1)) (g8 (M+1)) (jT (M+1)) (CM (M+1)) (zF M n x) w1)):=λw1 y=>H.out x (aJ C) w1 (e.out.1.trans (y.mono N));obtain⟨o,A⟩:∃o,zF M n x=o:=⟨_,rfl⟩;rw[A]at G;have S:=ap A;have bf:aZ<wr.heap.size:=by omega
   clear r C A aW;cases n with
   | zero=>exact aD.elim
   | succ n=>
   obtain⟨a1,a2,a3,a4⟩:=aD;have J:dq (n+1) x=.agg #[ab x.1.1,ab x.1.2.1,af x.1.2.2,ae x.2.1.1 x.2.2.length x.2.1.2]:=rfl;rw[J]at G;clear J;have ba:(0:Int)<=(k:Int):=by omega
   have bb:(k:Int)<(len:Int):=by omega
   go_wp2_with fail;refine(G.out _ aO).mono ?_;rintro a7 h ⟨d,a0,rfl,j⟩;have F:Hid (aj wr h):=aO.trans (j.out.1.mono (by simp));have ag:wr.heap.size<=h.heap.size:=F.out.size;have ad:Value.agg (e9 (M+1) d).toArray=.agg #[ab d.1.1.1.1,ab d.1.1.1.2.1,af d.1.1.1.2.2,ae d.1.1.2.1.1 d.1.1.2.2.length d.1.1.2.1.2,ab d.1.2.1.1.1,ab d.1.2.1.1.2.1,af d.1.2.1.1.2.2,ae d.1.2.1.2.1.1 d.1.2.1.2.2.length d.1.2.1.2.1.2,ae d.2.1.1 d.2.2.length d.2.1.2,ab d.1.2.2.1.1,ab d.1.2.2.1.2.1,af d.1.2.2.1.2.2,ae d.1.2.2.2.1.1 d.1.2.2.2.2.length d.1.2.2.2.1.2]:=rfl;rw[ad];clear ad G a1 a2 a3 a4;cases a0
   ·have L:Hid (lF 13 (e9 (M+1)) (g8 (M+1)) (jT (M+1)) (CM (M+1)) (cJ (zF M (n+1)) p) w (.returned (.tuple #[ae none 0 0,.bool false])) (h.alloc (.cells #[ab d.1.1.1.1,ab d.1.1.1.2.1,af d.1.1.1.2.2,ae d.1.1.2.1.1 d.1.1.2.2.length d.1.1.2.1.2,ab d.1.2.1.1.1,ab d.1.2.1.1.2.1,af d.1.2.1.1.2.2,ae d.1.2.1.2.1.1 d.1.2.1.2.2.length d.1.2.1.2.1.2,ae d.2.1.1 d.2.2.length d.2.1.2,ab d.1.2.2.1.1,ab d.1.2.2.1.2.1,af d.1.2.2.1.2.2,ae d.1.2.2.2.1.1 d.1.2.2.2.2.length d.1.2.2.2.1.2] 162))):=by
      have ar:cJ (zF M (n+1)) p=none:=mf _ p k x Z.out (by
       have y:=j.out.2.1;rw[S.out];cases o with
       | none=>rfl
       | some i=>cases y)
      have z:aj w h:=e.out.1.trans (F.out.mono N);refine⟨[],none,0,false,rfl,z.trans (aO.mono z.size),by rw[ar];rfl,⟨am _,aH _⟩,ah rfl,ah rfl,λi l=>by rw[ar]at l;cases l⟩
    clear j e;go_wp2_with fail;exact av (v:=.tuple #[ae none 0 0,.bool false]) (by simp[results,results143,go_sem]) rfl L.out
   ·have X:=λ(P Q:Obj)(g c:Nat)(R:World) aV aS aQ=>ap (fl.step q.out (T:=162) (w1:=(h.alloc P).alloc Q) (w2:=R) (g:=g) (c:=c) e.out (aH _) N (F.out.trans ((aO.trans (aO.mono (by simp))).mono ag)) d (q.out.mono (by simp;omega) (q.out.below (aO.trans (aO.mono (by simp))) j.out.2.2.1)) (q.out.1 _ _ _ (λb z=>ai (by simp at z;omega)) j.out.2.2.2.1) aV aS aQ);have U:=λ(P Q:Obj)=>ap (dT e.out.2.1 (F.out.trans ((aO.trans (aO.mono (by simp)):aj h ((h.alloc P).alloc Q)).mono ag)));rw[s.out]at X U;go_wp2_with (at_builtin;refine wpList_append_lies _ rfl _ _ 149 rfl w.heap.size 162 aY _ 13 192 underlying149 I.out.1 I.out.2.1 I.out.2.2.1 I.out.2.2.2 rfl (by decide) (ae D k K) k (m.flatMap (e9 (M+1))) (by simp[Act.eval]) (U _ _).out ⟨h.heap.size+1,0,none⟩ 1 1 (e9 (M+1) d) (by simp[Act.eval]) rfl (World.news_of_block (cs:= #[ab d.1.1.1.1,ab d.1.1.1.2.1,af d.1.1.1.2.2,ae d.1.1.2.1.1 d.1.1.2.2.length d.1.1.2.1.2,ab d.1.2.1.1.1,ab d.1.2.1.1.2.1,af d.1.2.1.1.2.2,ae d.1.2.1.2.1.1 d.1.2.1.2.2.length d.1.2.1.2.1.2,ae d.2.1.1 d.2.2.length d.2.1.2,ab d.1.2.2.1.1,ab d.1.2.2.1.2.1,af d.1.2.2.1.2.2,ae d.1.2.2.2.1.1 d.1.2.2.2.2.length d.1.2.2.2.1.2]) (t:=162) (fr:=(0,0)) (by have u:=aA (h.alloc (.cells #[ab d.1.1.1.1,ab d.1.1.1.2.1,af d.1.1.1.2.2,ae d.1.1.2.1.1 d.1.1.2.2.length d.1.1.2.1.2,ab d.1.2.1.1.1,ab d.1.2.1.1.2.1,af d.1.2.1.1.2.2,ae d.1.2.1.2.1.1 d.1.2.1.2.2.length d.1.2.1.2.1.2,ae d.2.1.1 d.2.2.length d.2.1.2,ab d.1.2.2.1.1,ab d.1.2.2.1.2.1,af d.1.2.2.1.2.2,ae d.1.2.2.2.1.1 d.1.2.2.2.2.length d.1.2.2.2.1.2] 162)) (.cells #[ab d.1.1.1.1,ab d.1.1.1.2.1,af d.1.1.1.2.2,ae d.1.1.2.1.1 d.1.1.2.2.length d.1.1.2.1.2,ab d.1.2.1.1.1,ab d.1.2.1.1.2.1,af d.1.2.1.1.2.2,ae d.1.2.1.2.1.1 d.1.2.1.2.2.length d.1.2.1.2.1.2,ae d.2.1.1 d.2.2.length d.2.1.2,ab d.1.2.2.1.1,ab d.1.2.2.1.2.1,af d.1.2.2.1.2.2,ae d.1.2.2.2.1.1 d.1.2.2.2.2.length d.1.2.2.2.1.2] 162);simp only[iB]at u;exact u)) (Jb _ _) (by decide) (by unfold maxLen;omega) (by omega) (by simp;omega) (h.heap.size+1+1) (by simp) ?_;intro aN aL R au ao an bd;have aK:=X _ _ aN aL R au ao (by simpa using an);clear au ao an);have aF:Hid (∃i,o=some i/\CM (M+1) d i):=by
     have y:=j.out.2.1;cases o with
     | none=>cases y
     | some i=>exact⟨i,rfl,j.out.2.2.2.2 i rfl⟩
    obtain⟨i,l,aX⟩:=aF.out;have aG:=ap (S.out.trans l);go_roundw
    case rel=>exact⟨k+1,_,by omega,by go_num,rfl,m++ [d],E++ [i],by simp[s.out],aK.out,r9 _ _ _ _ Z.out _ _ Y.out aG.out,W.out.snoc aX⟩
    case measure=>simp[intOf];omega
  ·have L:Hid (lF 13 (e9 (M+1)) (g8 (M+1)) (jT (M+1)) (CM (M+1)) (cJ (zF M n) p) w (.returned (.tuple #[ae D k K,.bool true])) wr):=by
     have al:cJ (zF M n) p=some E:=by have u:=Y.out;rw[bA (by rw[ax.out];omega)]at u;exact u
     obtain⟨a5,a6,aa,aR,aT,A⟩:=fl.lay (f:=e9 (M+1)) (k:=13) q.out (λ_=>rfl) e.out;rw[s.out]at aa;injection aa with aM a8 J;subst aM J;refine⟨m,D,K,true,by rw[s.out],e.out.1,by rw[al];rfl,aR,aT,?_,λi l=>by rw[al]at l;obtain rfl:=aw l;exact W.out⟩;exact(cG q.out 13 (e9 (M+1)) D).1 _ _ _ (λb z=>by omega) A
   clear e;go_wp2_with fail;exact av (v:=.tuple #[ae D k K,.bool true]) (by simp[results,results143,go_sem]) rfl L.out
theorem wI:(Tryz.prog.info? 151).map (λi=>(i.zero,i.size,i.bytes))=some (some (.agg #[af .empty,ae none 0 0]),2,40):=by kernel_rfl
theorem LO(n:Nat)(y:Bh n):∀u∈pH n y,u.oneCell'=true:=ot rfl
theorem qx(M n:Nat)(p:List (Tm n))(len:Nat)(ax:Hid (p.length=len))(bc:len<=8)(a:Option Addr)(pc B:Nat)(w:World)(r:Hid (fH B w n p a))(aP:B<=w.heap.size)(H:Hid (∀x∈p,∀w1,aj w w1->ak 106 #[dq n x] w1 (qR (pH (M+1)) (pE (M+1)) (jS (M+1)) (yH (M+1)) (zD M n x) w1))):ak 105 #[ae a len pc,.func (Fn.func 106) #[] #[]] w (lF 2 (pH (M+1)) (pE (M+1)) (jS (M+1)) (yH (M+1)) (cJ (zD M n) p) w):=by
 obtain⟨aY,aq,ay,az,aB⟩:=bR wI;have I:=ap (⟨aq,ay,az,aB⟩:_/\_/\_/\_);clear aq ay az aB;have q:=ap (dV (M+1));go_enter func105,ntmps105;go_wp2_with fail;go_loopw [6,13] (λv O wr=>∃(k:Nat)(aE:Value),k<=len/\O=ab k/\aE=v/\Hid (PH (pE (M+1)) (jS (M+1)) (yH (M+1)) (pH (M+1)) 2 151 (zD M n) p w k aE wr)) (λ_ O _=>len-(intOf O).toNat)
 case atStart=>exact⟨0,_,by omega,rfl,rfl,[],[],rfl,fl.nil _,by simp[cJ],eT.nil⟩
 case round=>
  obtain⟨k,v,a9,rfl,rfl,V⟩:=hrel;obtain⟨m,E,s,e,Y,W⟩:∃(m E:List (Bh (M+1))),Hid (m.length=k)/\Hid (fl (pE (M+1)) (jS (M+1)) (pH (M+1)) 2 151 0 w.heap.size m v w wr)/\Hid (cJ (zD M n) (p.take k)=some E)/\Hid (eT (yH (M+1)) m E):=V.out;clear V;have N:w.heap.size<=wr.heap.size:=e.out.1.size;obtain⟨D,K,aC⟩:=e.out.slice;rw[s.out]at aC;subst aC;by_cases aU:k<len
  ·obtain⟨x,C⟩:∃x,p[k]?=some x:=⟨p[k]'(by rw[ax.out];exact aU),aI _⟩;have Z:=ap C;rcases(r.out.below (e.out.1.mono aP))with r|⟨aZ,po,rfl,be,r⟩
   ·subst r;simp at C
   obtain⟨aD,aW⟩:=r k x C;have G:Hid (∀w1,aj wr w1->ak 106 #[dq n x] w1 (qR (pH (M+1)) (pE (M+1)) (jS (M+1)) (yH (M+1)) (zD M n x) w1)):=λw1 y=>H.out x (aJ C) w1 (e.out.1.trans (y.mono N));obtain⟨o,A⟩:∃o,zD M n x=o:=⟨_,rfl⟩;rw[A]at G;have S:=ap A;have bf:aZ<wr.heap.size:=by omega
   clear r C A aW;cases n with
   | zero=>exact aD.elim
   | succ n=>
   obtain⟨a1,a2,a3,a4⟩:=aD;have J:dq (n+1) x=.agg #[ab x.1.1,ab x.1.2.1,af x.1.2.2,ae x.2.1.1 x.2.2.length x.2.1.2]:=rfl;rw[J]at G;clear J;have ba:(0:Int)<=(k:Int):=by omega
   have bb:(k:Int)<(len:Int):=by omega
   go_wp2_with fail;refine(G.out _ aO).mono ?_;rintro a7 h ⟨d,a0,rfl,j⟩;have F:Hid (aj wr h):=aO.trans (j.out.1.mono (by simp));have ag:wr.heap.size<=h.heap.size:=F.out.size;have ad:Value.agg (pH (M+1) d).toArray=.agg #[af d.1,ae d.2.1.1 d.2.2.length d.2.1.2]:=rfl;rw[ad];clear ad G a1 a2 a3 a4;cases a0
   ·have L:Hid (lF 2 (pH (M+1)) (pE (M+1)) (jS (M+1)) (yH (M+1)) (cJ (zD M (n+1)) p) w (.returned (.tuple #[ae none 0 0,.bool false])) (h.alloc (.cells #[af d.1,ae d.2.1.1 d.2.2.length d.2.1.2] 151))):=by
      have ar:cJ (zD M (n+1)) p=none:=mf _ p k x Z.out (by
       have y:=j.out.2.1;rw[S.out];cases o with
       | none=>rfl
       | some i=>cases y)
      have z:aj w h:=e.out.1.trans (F.out.mono N);refine⟨[],none,0,false,rfl,z.trans (aO.mono z.size),by rw[ar];rfl,⟨am _,aH _⟩,ah rfl,ah rfl,λi l=>by rw[ar]at l;cases l⟩
    clear j e;go_wp2_with fail;exact av (v:=.tuple #[ae none 0 0,.bool false]) (by simp[results,results105,go_sem]) rfl L.out
   ·have X:=λ(P Q:Obj)(g c:Nat)(R:World) aV aS aQ=>ap (fl.step q.out (T:=151) (w1:=(h.alloc P).alloc Q) (w2:=R) (g:=g) (c:=c) e.out (aH _) N (F.out.trans ((aO.trans (aO.mono (by simp))).mono ag)) d (q.out.mono (by simp;omega) (q.out.below (aO.trans (aO.mono (by simp))) j.out.2.2.1)) (q.out.1 _ _ _ (λb z=>ai (by simp at z;omega)) j.out.2.2.2.1) aV aS aQ);have U:=λ(P Q:Obj)=>ap (dT e.out.2.1 (F.out.trans ((aO.trans (aO.mono (by simp)):aj h ((h.alloc P).alloc Q)).mono ag)));rw[s.out]at X U;go_wp2_with (at_builtin;refine wpList_append_lies _ rfl _ _ 22 rfl w.heap.size 151 aY _ 2 40 underlying22 I.out.1 I.out.2.1 I.out.2.2.1 I.out.2.2.2 rfl (by decide) (ae D k K) k (m.flatMap (pH (M+1))) (by simp[Act.eval]) (U _ _).out ⟨h.heap.size+1,0,none⟩ 1 1 (pH (M+1) d) (by simp[Act.eval]) rfl (World.news_of_block (cs:= #[af d.1,ae d.2.1.1 d.2.2.length d.2.1.2]) (t:=151) (fr:=(0,0)) (by have u:=aA (h.alloc (.cells #[af d.1,ae d.2.1.1 d.2.2.length d.2.1.2] 151)) (.cells #[af d.1,ae d.2.1.1 d.2.2.length d.2.1.2] 151);simp only[iB]at u;exact u)) (LO _ _) (by decide) (by unfold maxLen;omega) (by omega) (by simp;omega) (h.heap.size+1+1) (by simp) ?_;intro aN aL R au ao an bd;have aK:=X _ _ aN aL R au ao (by simpa using an);clear au ao an);have aF:Hid (∃i,o=some i/\yH (M+1) d i):=by
     have y:=j.out.2.1;cases o with
     | none=>cases y
     | some i=>exact⟨i,rfl,j.out.2.2.2.2 i rfl⟩
    obtain⟨i,l,aX⟩:=aF.out;have aG:=ap (S.out.trans l);go_roundw
    case rel=>exact⟨k+1,_,by omega,by go_num,rfl,m++ [d],E++ [i],by simp[s.out],aK.out,r9 _ _ _ _ Z.out _ _ Y.out aG.out,W.out.snoc aX⟩
    case measure=>simp[intOf];omega
  ·have L:Hid (lF 2 (pH (M+1)) (pE (M+1)) (jS (M+1)) (yH (M+1)) (cJ (zD M n) p) w (.returned (.tuple #[ae D k K,.bool true])) wr):=by
     have al:cJ (zD M n) p=some E:=by have u:=Y.out;rw[bA (by rw[ax.out];omega)]at u;exact u
     obtain⟨a5,a6,aa,aR,aT,A⟩:=fl.lay (f:=pH (M+1)) (k:=2) q.out (λ_=>rfl) e.out;rw[s.out]at aa;injection aa with aM a8 J;subst aM J;refine⟨m,D,K,true,by rw[s.out],e.out.1,by rw[al];rfl,aR,aT,?_,λi l=>by rw[al]at l;obtain rfl:=aw l;exact W.out⟩;exact(cG q.out 2 (pH (M+1)) D).1 _ _ _ (λb z=>by omega) A
   clear e;go_wp2_with fail;exact av (v:=.tuple #[ae D k K,.bool true]) (by simp[results,results105,go_sem]) rfl L.out
end Go.Proofs.YtmmahddlcldmiaaGreat
