/- What is proved here: plain facts and contracts that the claimed theorem stands on. No condition but those that each names. -/
import Derived.Test.YtbknffhilfoakaaGreatG19
namespace Go.Proofs.YtbknffhilfoakaaGreat
open Go.RowKit
set_option maxHeartbeats 4000000
set_option maxRecDepth 100000
theorem A9 {B N base:Nat} (xs ys:List (Tm N)) {w w1 w':World} {cs:Array Value} {g L:Nat} (hb1:base<=w1.heap.size) (hg:g=w1.heap.size) (hL:L=xs.length) (hbase:w.heap.size<=base)
    (hw:∀b,b<B∨base<=b->b<(w1.alloc (.cells cs 25)).heap.size->w'.heap[b]? =(w1.alloc (.cells cs 25)).heap[b]?) (hsz:(w1.alloc (.cells cs 25)).heap.size<=w'.heap.size) (hb:Below w.heap.size w w')
    (hcs:cs.toList=xs.flatMap (fw N)) (hm:xs.length<=8) (hX:∀y∈xs,In w1.heap.size w1 N y/\Off (fun b=>b<B∨base<=b) N y) (hs:aj (fun a b=>same N a N b) xs ys=true):
    gu B (N+1) (bV N ys) w (.returned (.agg #[.int .i64 4,.int .i64 0,.string ⟨#[]⟩,.slice (some ⟨g,0,none⟩) L L])) w':=by
 have h:=Grow.lit (T:=25) (k:=4) (B:=B) (base:=base) (aX N) xs (w0:=w1) hcs (gX N) (by unfold maxLen;omega) hb1 (Below.refl _ _) hX
 obtain⟨a,c,e,k⟩:=GrowT.tells h hbase hs hw hsz hb
 injection e with e1 e2 e3
 subst e1 e3 hL hg
 exact k
theorem GrowT.slice {N B base:Nat} {xs:List (Tm N)} {v:Value} {w0 wr:World} (h:GrowT N B base xs v w0 wr):∃a c,v=.slice a xs.length c:=by
 rcases h.2.1.2 with⟨rfl,h0⟩|⟨g,cap,cur,rfl,_⟩
 ·exact⟨none,0,by rw[h0]⟩
 ·exact⟨_,_,rfl⟩
theorem gZ (N:Nat) (x:Tm N):∀u∈fw N x,u.oneCell'=true:=by
 intro u hu
 simp[fw,kG]at hu
 rcases hu with rfl|rfl|rfl|rfl<;>rfl
theorem wO (w:World) (x:Nd) {g:Nat} (hg:g=w.heap.size):∀j u,(kG x)[j]? =some u->(w.alloc (.cells #[.int .i64 x.1.1,.int .i64 x.1.2.1,.string x.1.2.2,.slice x.2.1 x.2.2.1 x.2.2.2] 25)).cell? ((⟨g,0,none⟩:Addr).add j)=some u:=by
 subst hg
 intro j u hj
 rw[cu]
 have:j<4:=(List.getElem?_eq_some_iff.1 hj).1
 have h4:j=0∨j=1∨j=2∨j=3:=by omega
 rcases h4 with rfl|rfl|rfl|rfl<;>simp[kG]at hj<;>subst hj<;>simp[go_sem]
theorem GrowT.app {N B base k:Nat} {xs:List (Tm N)} {v:Value} {w0 wr w3 w4:World} {g c:Nat} (h:GrowT N B base xs v w0 wr) (hk:xs.length=k) (hB:B<=base) (hb:base<=wr.heap.size) (h3:Below wr.heap.size wr w3) (X:Tm N) (hX:In w3.heap.size w3 N X) (hO:Off (fun b=>b<B∨wr.heap.size<=b) N X) {o:Obj}
    (hown:w4.ownsRow base 25 4 (.slice (some ⟨g,0,none⟩) (k+1) c) (k+1) (xs.flatMap (fw N)++fw N X)) (hg:(w3.alloc o).grownBy w4 v.ownBlock) (hat:v.ownBlock=some g∨g=w3.heap.size+1):
    GrowT N B base (xs++ [X]) (.slice (some ⟨g,0,none⟩) (k+1) c) w0 w4:=by
 subst hk
 have hal:Below w3.heap.size w3 (w3.alloc o):=(Below.refl _ _).alloc (Nat.le_refl _) _
 exact Grow.step (aX N) h hB hb (h3.trans (hal.mono h3.size)) X ((hX.below hal).mono hal.size) hO hown hg (by simpa using hat)
theorem GrowT.own {N B base k:Nat} {xs:List (Tm N)} {v:Value} {w0 wr w3:World} (h:GrowT N B base xs v w0 wr) (hk:xs.length=k) (h3:Below wr.heap.size wr w3) (o:Obj):(w3.alloc o).ownsRow base 25 4 v k (xs.flatMap (fw N)):=by
 subst hk
 exact own_below h.2.1 (h3.trans (((Below.refl _ _).alloc (Nat.le_refl _) _).mono h3.size))
theorem mg (w:World) (o:Obj) {b:Nat} (h:b<w.heap.size):(w.alloc o).heap[b]? =w.heap[b]? :=(World.grownBy_alloc w o none).block b h (by simp)
theorem af {w:World} {q:Nat} {cs:Array Value} {t:TypeId} (h:w.heap[q]? =some (.cells cs t)) (j:Nat):w.cell? ⟨q,j,none⟩=cs[j]? :=by simp[World.cell?,h]
theorem bU {w:World} {q:Nat} {cs:Array Value} {t:TypeId} (h:w.heap[q]? =some (.cells cs t)) (j:Nat):w.frozen? ⟨q,j,none⟩=false:=by simp[World.frozen?,h]
theorem ny (w:World) (o1 o2:Obj):((w.alloc o1).alloc o2).heap[w.heap.size]? =some o1/\((w.alloc o1).alloc o2).heap[w.heap.size+1]? =some o2:=by
 have h1:=(mg (w.alloc o1) o2 (b:=w.heap.size) (by simp)).trans (heap_alloc_new w o1)
 have h2:=heap_alloc_new (w.alloc o1) o2
 have e:(w.alloc o1).heap.size=w.heap.size+1:=by simp
 rw[e]at h2
 exact⟨h1,h2⟩
theorem vz {w:World} {r o:Nat} {v0 v1 v2 v3:Value} {B base:Nat} (hB:B<=r) (hb:r<base) {W:World} (hW:Below W.heap.size W w):∀b,b<B∨base<=b->b<W.heap.size->(bG w r o v0 v1 v2 v3).heap[b]? =W.heap[b]? :=fun b hb' hlt=>(au (by omega) _ _ _ _).trans (hW.block b hlt)
theorem bR {w W:World} {r o:Nat} {v0 v1 v2 v3:Value} (h:Below w.heap.size w W) (hr:w.heap.size<=r):Below w.heap.size w (bG W r o v0 v1 v2 v3):=
 ⟨h.os,h.tape,h.output,Nat.le_trans h.size (Nat.le_of_eq (aF _ _ _ _).symm),fun b hb=>(au (by omega) _ _ _ _).trans (h.block b hb)⟩
theorem GrowT.tup {N B base k:Nat} {xs:List (Tm N)} {va:Option Addr} {vc:Nat} {w0 wr:World} (h:GrowT N B base xs (.slice va k vc) w0 wr):In wr.heap.size wr (N+1) ((4,0,.empty),(va,vc),xs)/\Off (fun b=>b<B∨base<=b) (N+1) ((4,0,.empty),(va,vc),xs):=by
 obtain⟨a,c,e,hc,hl,ho⟩:=h.lay (aX N) (gX N)
 injection e with e1 e2 e3
 subst e1 e3
 refine⟨⟨⟨by simp[dZ],by simp[dZ],Nat.zero_le _,hc.1,hc.2⟩, ?_⟩, ?_⟩
 ·rcases hl with h4|⟨b,o,e,hb,h4⟩
  ·exact Or.inl h4
  ·exact Or.inr ⟨b,o,e,hb,fun i y hy=>⟨Cr (h4 i y hy).2 (h4 i y hy).1,(h4 i y hy).2⟩⟩
 ·rcases ho with ho|⟨b,o,e,hb,ho⟩
  ·exact Or.inl ho
  ·exact Or.inr ⟨b,o,e,hb,fun i y hy=>ho y (List.mem_of_getElem? hy)⟩
theorem wJ {n B base:Nat} {s m x:Tm (n+1)} {w wr w1:World} {A:Tm (n+3)} {ys:List (Tm (n+2))} (hB:B<=w.heap.size) (hs:In B w (n+1) s) (hm:In B w (n+1) m) (hx:In B w (n+1) x) (hbw:Below w.heap.size w wr) (hA:In wr.heap.size wr (n+3) A/\Off (fun b=>b<B∨base<=b) (n+3) A) (hAs:same (n+3) A (n+3) (bV (n+2) ys)=true) (h1:Below wr.heap.size wr w1):
    (∀y∈[ay zH (n+2),lift (n+3) (n+1) s,lift (n+3) (n+1) m,A,lift (n+3) (n+1) x],In w1.heap.size w1 (n+3) y/\Off (fun b=>b<B∨base<=b) (n+3) y)/\
    aj (fun a b=>same (n+3) a (n+3) b) [ay zH (n+2),lift (n+3) (n+1) s,lift (n+3) (n+1) m,A,lift (n+3) (n+1) x] [ay zH (n+2),lift (n+3) (n+1) s,lift (n+3) (n+1) m,bV (n+2) ys,lift (n+3) (n+1) x]=true:=by
 have L:∀t:Tm (n+1),In B w (n+1) t->In w1.heap.size w1 (n+3) (lift (n+3) (n+1) t)/\Off (fun b=>b<B∨base<=b) (n+3) (lift (n+3) (n+1) t):=fun t ht=>by
  have h2:=fZ (n+3) (n+1) (by omega) t B w ht
  have hb:=hbw.trans (h1.mono hbw.size)
  exact⟨(h2.below (hb.mono hB)).mono (Nat.le_trans hB hb.size),(iR h2).mono fun b hb=>Or.inl hb⟩
 have S:∀t:Tm (n+1),In B w (n+1) t->same (n+3) (lift (n+3) (n+1) t) (n+3) (lift (n+3) (n+1) t)=true:=fun t ht=>lw (fZ (n+3) (n+1) (by omega) t B w ht)
 refine⟨fun y hy=> ?_,by simp only[aj,S s hs,S m hm,S x hx,hAs,gM,Bool.and_self]⟩
 simp only[List.mem_cons,List.not_mem_nil,or_false]at hy
 rcases hy with rfl|rfl|rfl|rfl|rfl
 ·exact⟨bO _ _ (dO _ (by decide)) _ _,fB _ _ _⟩
 ·exact L s hs
 ·exact L m hm
 ·exact⟨(hA.1.below h1).mono h1.size,hA.2⟩
 ·exact L x hx
theorem r9 (N n:Nat) (x:Tm (n+1)):fw (N+1) (lift (N+1) (n+1) x)=fw (n+1) x:=by
 unfold fw
 rw[Cf]
theorem nS (n:Nat) (s m x:Tm (n+1)) (va:Option Addr) (vc k:Nat) (xs:List (Tm (n+2))) (hk:xs.length=k):
    [.int .i64 2,.int .i64 0,.string ⟨#[111,110]⟩,.slice none 0 0,.int .i64 s.1.1,.int .i64 s.1.2.1,.string s.1.2.2,.slice s.2.1.1 s.2.2.length s.2.1.2,.int .i64 m.1.1,.int .i64 m.1.2.1,.string m.1.2.2,.slice m.2.1.1 m.2.2.length m.2.1.2,.int .i64 4,.int .i64 0,.string ⟨#[]⟩,.slice va k vc,.int .i64 x.1.1,.int .i64 x.1.2.1,.string x.1.2.2,.slice x.2.1.1 x.2.2.length x.2.1.2]=
     List.flatMap (fw (n+3)) [ay zH (n+2),lift (n+3) (n+1) s,lift (n+3) (n+1) m,((4,0,.empty),(va,vc),xs),lift (n+3) (n+1) x]:=by
 show _=fw (n+3) (ay zH (n+2))++(fw (n+3) (lift (n+3) (n+1) s)++(fw (n+3) (lift (n+3) (n+1) m)++(fw (n+3) ((4,0,.empty),(va,vc),xs)++(fw (n+3) (lift (n+3) (n+1) x)++ []))))
 rw[r9,r9,r9,<-hk]
 rfl
theorem gY {α β:Type} (f:α->β) (p:List α) (k:Nat) (x:α) (hx:p[k]? =some x):(p.take (k+1)).map f=(p.take k).map f++ [f x]:=by
 rw[List.take_add_one,hx]
 simp
def KZ (n B:Nat) (p:List (Ac (n+1))) (w0:World) (base k:Nat) (v:Value) (wr:World):Prop:=
 ∃xs,xs.length=k/\GrowT (n+2) B base xs v w0 wr/\aj (fun a b=>same (n+2) a (n+2) b) xs ((p.take k).map (eQ n))=true
theorem qy (n:Nat) (s m x:Tm (n+1)) (p:List (Ac (n+1))) (len:Nat) (hpl:Hid (p.length=len)) (h8:len<=8) (a:Option Addr) (pc:Nat) (B:Nat) (w:World) (hs:Hid (In B w (n+1) s)) (hm:Hid (In B w (n+1) m)) (hx:Hid (In B w (n+1) x))
    (hp:Hid (Lay B w 11 (oh (n+1)) (AcIn (n+1) B w) a p)) (hB:B<=w.heap.size) (X:Tm (n+4)) (hX:Hid (X=eT n ((s,m,x),(a,pc),p))):
    Calls Tryz.prog 91 #[.agg #[.int .i64 s.1.1,.int .i64 s.1.2.1,.string s.1.2.2,.slice s.2.1.1 s.2.2.length s.2.1.2,.int .i64 m.1.1,.int .i64 m.1.2.1,.string m.1.2.2,.slice m.2.1.1 m.2.2.length m.2.1.2,.slice a len pc,.int .i64 x.1.1,.int .i64 x.1.2.1,.string x.1.2.2,.slice x.2.1.1 x.2.2.length x.2.1.2]] w (gu B (n+4) X w):=by
 obtain⟨it,hit,htz0,htz1,htz2⟩:=info_parts bP
 have HT:=hide (⟨hit,htz0,htz1,htz2⟩:_/\_/\_/\_)
 clear hit htz0 htz1 htz2
 go_enter Tryz.func91,Tryz.ntmps91
 go_wp2_with fail
 have HN:=hide (ny w (.cells #[.int .i64 s.1.1,.int .i64 s.1.2.1,.string s.1.2.2,.slice s.2.1.1 s.2.2.length s.2.1.2,.int .i64 m.1.1,.int .i64 m.1.2.1,.string m.1.2.2,.slice m.2.1.1 m.2.2.length m.2.1.2,.slice a len pc,.int .i64 x.1.1,.int .i64 x.1.2.1,.string x.1.2.2,.slice x.2.1.1 x.2.2.length x.2.1.2] 90) (.cells #[.int .i64 0,.int .i64 0,.string ⟨#[]⟩,.slice none 0 0] 25))
 generalize hW0:(w.alloc _).alloc _=W0
 rw[hW0]at HN
 have HB0:Hid (Below w.heap.size w W0/\W0.heap.size=w.heap.size+2):=by
  subst hW0
  exact⟨((Below.refl _ _).alloc (Nat.le_refl _) _).alloc (by simp) _,by simp⟩
 have HA0:Hid (∀wr,Below (w.heap.size+2) W0 wr->Below w.heap.size w wr):=fun wr h=>HB0.out.1.trans (h.mono (by omega))
 go_loopw [3,9] (fun v i wr=>∃(k:Nat) (u:Value),k<=len/\i=.int .i64 k/\u=v/\Hid (KZ n B p W0 (w.heap.size+2) k u wr)) (fun _ i _=>len-(intOf i).toNat)
 case atStart=>exact⟨0,_,by omega,rfl,rfl,[],rfl,Grow.nil _,rfl⟩
 case round=>
  obtain⟨k,v,hk,rfl,rfl,HR⟩:=hrel
  obtain⟨xs,HL,HG,HM⟩:∃xs:List (Tm (n+2)),Hid (xs.length=k)/\Hid (GrowT (n+2) B (w.heap.size+2) xs v W0 wr)/\Hid (aj (fun a b=>same (n+2) a (n+2) b) xs ((p.take k).map (eQ n))=true):=HR.out
  clear HR
  have HBW:=hide (HA0.out wr HG.out.1)
  have hbase:w.heap.size+2<=wr.heap.size:=by have:=HG.out.1.size;have:=HB0.out.2;omega
  by_cases hlt:k<len
  ·obtain⟨y,hy⟩:∃y,p[k]? =some y:=⟨p[k]'(by rw[hpl.out];exact hlt),List.getElem?_eq_getElem _⟩
   have HS:=hide (gY (eQ n) p k y hy)
   obtain⟨pb,po,rfl,hpb,⟨x0,⟨x1,x2,x3,x4⟩,⟨x5,x6,x7,x8⟩,x9,x10⟩,hi⟩:=(fH (je (n+1)) (HBW.out.mono hB) hp.out).ac k y hy
   have hB':B<=wr.heap.size:=by omega
   have HC:Hid (∀w1,Below wr.heap.size wr w1->Calls Tryz.prog 106 #[.agg #[.int .i64 y.1,.int .i64 y.2.1.1.1.1,.int .i64 y.2.1.1.1.2.1,.string y.2.1.1.1.2.2,.slice y.2.1.1.2.1.1 y.2.1.1.2.2.length y.2.1.1.2.1.2,.int .i64 y.2.1.2.1.1,.int .i64 y.2.1.2.1.2.1,.string y.2.1.2.1.2.2,.slice y.2.1.2.2.1.1 y.2.1.2.2.2.length y.2.1.2.2.1.2,.string y.2.2.1,.int .i64 y.2.2.2]] w1 (gu B (n+2) (eQ n y) w1)):=
    fun w1 hw=>xA n y B w1 ((je (n+1)).below (hw.mono hB') hi) (Nat.le_trans hB' hw.size)
   clear hi hy
   generalize eQ n y=Y at*
   have hk1:(0:Int)<=(k:Int):=by omega
   have hk2:(k:Int)<(len:Int):=by omega
   have hpw:pb<wr.heap.size:=by omega
   obtain⟨va,vc,hv⟩:=HG.out.slice
   rw[HL.out]at hv
   subst hv
   go_wp2_with fail
   refine(HC.out _ aM).mono ?_
   rintro e w3 ⟨z,rfl,HZ⟩
   have HB3:Hid (Below wr.heap.size wr w3):=aM.trans (HZ.out.1.mono (by simp))
   have e3:val (n+2) z=.agg #[.int .i64 z.1.1,.int .i64 z.1.2.1,.string z.1.2.2,.slice z.2.1.1 z.2.2.length z.2.1.2]:=rfl
   rw[e3]
   have HST:=fun(o:Obj) (g c:Nat) (w4:World) hown hgrow hat=>hide (HG.out.app HL.out (by omega) hbase HB3.out z HZ.out.2.1 (HZ.out.2.2.1.mono fun b hb=>by simp at hb;omega) (o:=o) (g:=g) (c:=c) (w4:=w4) hown hgrow hat)
   have h3s:wr.heap.size<=w3.heap.size:=HB3.out.size
   clear e3 HC x0 x1 x2 x3 x4 x5 x6 x7 x8 x9 x10
   go_wp2_with (at_builtin;refine wpList_append_lies _ rfl _ _ 23 rfl (w.heap.size+2) 25 it _ 4 56 Tryz.underlying23 HT.out.1 HT.out.2.1 HT.out.2.2.1 HT.out.2.2.2 rfl (by decide) (.slice va k vc) k (xs.flatMap (fw (n+2))) (by simp[Act.eval]) (HG.out.own HL.out HB3.out _) ⟨w3.heap.size,0,none⟩ 1 1 (fw (n+2) z) (by simp[Act.eval]) rfl (wO w3 (dF (n+2) z) rfl) (gZ _ _) (by decide) (by unfold maxLen;omega) (by omega) (by simp;omega) (w3.heap.size+1) (by simp) ?_;intro g4 c4 w4 hown4 hgrow4 hat4 hlt4;have HS4:=HST _ g4 c4 w4 hown4 hgrow4 hat4;clear hown4 hgrow4 hat4)
   go_roundw
   case rel=>exact⟨k+1,_,by omega,by go_num,rfl,xs++ [z],by simp[HL.out],HS4.out,by rw[HS.out];exact eY _ _ _ _ _ HM.out HZ.out.2.2.2⟩
   case measure=>simp[intOf];omega
  ·obtain rfl:k=len:=by omega
   obtain⟨va,vc,hv⟩:=HG.out.slice
   rw[HL.out]at hv
   subst hv
   have HX1:=hide (And.intro ((HG.out.1.block w.heap.size (by omega)).trans HN.out.1) ((HG.out.1.block (w.heap.size+1) (by omega)).trans HN.out.2))
   have c0:wr.cell? ⟨w.heap.size,0,none⟩=some (.int .i64 s.1.1):=af HX1.out.1 0
   have c1:wr.cell? ⟨w.heap.size,1,none⟩=some (.int .i64 s.1.2.1):=af HX1.out.1 1
   have c2:wr.cell? ⟨w.heap.size,2,none⟩=some (.string s.1.2.2):=af HX1.out.1 2
   have c3:wr.cell? ⟨w.heap.size,3,none⟩=some (.slice s.2.1.1 s.2.2.length s.2.1.2):=af HX1.out.1 3
   have c4:wr.cell? ⟨w.heap.size,4,none⟩=some (.int .i64 m.1.1):=af HX1.out.1 4
   have c5:wr.cell? ⟨w.heap.size,5,none⟩=some (.int .i64 m.1.2.1):=af HX1.out.1 5
   have c6:wr.cell? ⟨w.heap.size,6,none⟩=some (.string m.1.2.2):=af HX1.out.1 6
   have c7:wr.cell? ⟨w.heap.size,7,none⟩=some (.slice m.2.1.1 m.2.2.length m.2.1.2):=af HX1.out.1 7
   have c9:wr.cell? ⟨w.heap.size,9,none⟩=some (.int .i64 x.1.1):=af HX1.out.1 9
   have c10:wr.cell? ⟨w.heap.size,10,none⟩=some (.int .i64 x.1.2.1):=af HX1.out.1 10
   have c11:wr.cell? ⟨w.heap.size,11,none⟩=some (.string x.1.2.2):=af HX1.out.1 11
   have c12:wr.cell? ⟨w.heap.size,12,none⟩=some (.slice x.2.1.1 x.2.2.length x.2.1.2):=af HX1.out.1 12
   have d0:wr.cell? ⟨w.heap.size+1,0,none⟩=some (.int .i64 0):=af HX1.out.2 0
   have d1:wr.cell? ⟨w.heap.size+1,1,none⟩=some (.int .i64 0):=af HX1.out.2 1
   have d2:wr.cell? ⟨w.heap.size+1,2,none⟩=some (.string ⟨#[]⟩):=af HX1.out.2 2
   have d3:wr.cell? ⟨w.heap.size+1,3,none⟩=some (.slice none 0 0):=af HX1.out.2 3
   have f0:=fun j=>bU HX1.out.2 j
   have hq:w.heap.size<wr.heap.size:=by omega
   have hq1:w.heap.size+1<wr.heap.size:=by omega
   have HK:Hid (∀w',Below wr.heap.size wr w'->(w'.cell? ⟨w.heap.size,0,none⟩=some (.int .i64 s.1.1)/\w'.cell? ⟨w.heap.size,1,none⟩=some (.int .i64 s.1.2.1)/\w'.cell? ⟨w.heap.size,2,none⟩=some (.string s.1.2.2)/\w'.cell? ⟨w.heap.size,3,none⟩=some (.slice s.2.1.1 s.2.2.length s.2.1.2))/\
     (w'.cell? ⟨w.heap.size,4,none⟩=some (.int .i64 m.1.1)/\w'.cell? ⟨w.heap.size,5,none⟩=some (.int .i64 m.1.2.1)/\w'.cell? ⟨w.heap.size,6,none⟩=some (.string m.1.2.2)/\w'.cell? ⟨w.heap.size,7,none⟩=some (.slice m.2.1.1 m.2.2.length m.2.1.2))/\
     (w'.cell? ⟨w.heap.size,9,none⟩=some (.int .i64 x.1.1)/\w'.cell? ⟨w.heap.size,10,none⟩=some (.int .i64 x.1.2.1)/\w'.cell? ⟨w.heap.size,11,none⟩=some (.string x.1.2.2)/\w'.cell? ⟨w.heap.size,12,none⟩=some (.slice x.2.1.1 x.2.2.length x.2.1.2))):=fun w' h=>by
    have hc:=fun o=>ag h w.heap.size o hq
    exact⟨⟨(hc _).trans c0,(hc _).trans c1,(hc _).trans c2,(hc _).trans c3⟩,⟨(hc _).trans c4,(hc _).trans c5,(hc _).trans c6,(hc _).trans c7⟩,(hc _).trans c9,(hc _).trans c10,(hc _).trans c11,(hc _).trans c12⟩
   have Htwo:Hid True:=trivial
   have HLIT:=fun(w1:World) (h1:Below wr.heap.size wr w1)=>hide (wJ (base:=w.heap.size+2) (ys:=p.map (eQ n)) (w1:=w1) hB hs.out hm.out hx.out HBW.out HG.out.tup (bX rfl (by have h:=HM.out;rw[List.take_of_length_le (by rw[hpl.out];omega)]at h;exact h)) h1)
   have HLn:=hide HL.out
   clear hW0 HG HL HM HX1 HA0 HB0 HN
   go_wp2_with fail
   go_region_held3 (fun w'=>(w'.cell? ⟨w.heap.size,0,none⟩=some (.int .i64 s.1.1)/\w'.cell? ⟨w.heap.size,1,none⟩=some (.int .i64 s.1.2.1)/\w'.cell? ⟨w.heap.size,2,none⟩=some (.string s.1.2.2)/\w'.cell? ⟨w.heap.size,3,none⟩=some (.slice s.2.1.1 s.2.2.length s.2.1.2))/\
       (w'.cell? ⟨w.heap.size,4,none⟩=some (.int .i64 m.1.1)/\w'.cell? ⟨w.heap.size,5,none⟩=some (.int .i64 m.1.2.1)/\w'.cell? ⟨w.heap.size,6,none⟩=some (.string m.1.2.2)/\w'.cell? ⟨w.heap.size,7,none⟩=some (.slice m.2.1.1 m.2.2.length m.2.1.2))/\
       (w'.cell? ⟨w.heap.size,9,none⟩=some (.int .i64 x.1.1)/\w'.cell? ⟨w.heap.size,10,none⟩=some (.int .i64 x.1.2.1)/\w'.cell? ⟨w.heap.size,11,none⟩=some (.string x.1.2.2)/\w'.cell? ⟨w.heap.size,12,none⟩=some (.slice x.2.1.1 x.2.2.length x.2.1.2))) (first|(go_keep;done)|exact HK.out _ HB5.out|(refine HK.out _ ?_;go_grown;done))
    ((first
     | (go_at_call 76;refine(gU _ _).mono ?_;rintro e w1 ⟨rfl,rfl⟩)
     | (go_at_call 78;have Hone:=Htwo;clear Htwo;refine(dQ _ _ _ _).mono ?_;rintro e w1 ⟨rfl,rfl⟩)
     | (go_at_call 78;clear Hone;refine(dQ _ _ _ _).mono ?_;rintro e w5 ⟨rfl,hw5⟩;have HB5:=hide (show Below wr.heap.size wr w5 by rw[hw5];go_grown);have HW5:=hide hw5;clear hw5;replace d0:=(ag HB5.out _ _ hq1).trans d0;replace d1:=(ag HB5.out _ _ hq1).trans d1;replace d2:=(ag HB5.out _ _ hq1).trans d2;replace d3:=(ag HB5.out _ _ hq1).trans d3;replace f0:=fun j=>(dP HB5.out _ j hq1).trans (f0 j))))
   go_wp2_with fail
   refine bodyPost_ret (v:=.agg #[.int .i64 4,.int .i64 0,.string ⟨#[]⟩,.slice (some ⟨wr.heap.size+1+1,0,none⟩) 5 5]) (by simp[results,Tryz.results91,go_sem,d0,d1,d2,d3]) rfl ?_
   rw[hX.out]
   have hal:Below wr.heap.size wr ((wr.alloc (.cells #[.int .i64 2,.int .i64 0,.string ⟨#[111,110]⟩,.slice none 0 0] 25)).alloc (.cells #[.int .i64 4,.int .i64 0,.string ⟨#[]⟩,.slice va k vc] 25)):=by go_grown
   have h5:Below (((wr.alloc (.cells #[.int .i64 2,.int .i64 0,.string ⟨#[111,110]⟩,.slice none 0 0] 25)).alloc (.cells #[.int .i64 4,.int .i64 0,.string ⟨#[]⟩,.slice va k vc] 25)).alloc (.cells #[.int .i64 2,.int .i64 0,.string ⟨#[111,110]⟩,.slice none 0 0,.int .i64 s.1.1,.int .i64 s.1.2.1,.string s.1.2.2,.slice s.2.1.1 s.2.2.length s.2.1.2,.int .i64 m.1.1,.int .i64 m.1.2.1,.string m.1.2.2,.slice m.2.1.1 m.2.2.length m.2.1.2,.int .i64 4,.int .i64 0,.string ⟨#[]⟩,.slice va k vc,.int .i64 x.1.1,.int .i64 x.1.2.1,.string x.1.2.2,.slice x.2.1.1 x.2.2.length x.2.1.2] 25)).heap.size (((wr.alloc (.cells #[.int .i64 2,.int .i64 0,.string ⟨#[111,110]⟩,.slice none 0 0] 25)).alloc (.cells #[.int .i64 4,.int .i64 0,.string ⟨#[]⟩,.slice va k vc] 25)).alloc (.cells #[.int .i64 2,.int .i64 0,.string ⟨#[111,110]⟩,.slice none 0 0,.int .i64 s.1.1,.int .i64 s.1.2.1,.string s.1.2.2,.slice s.2.1.1 s.2.2.length s.2.1.2,.int .i64 m.1.1,.int .i64 m.1.2.1,.string m.1.2.2,.slice m.2.1.1 m.2.2.length m.2.1.2,.int .i64 4,.int .i64 0,.string ⟨#[]⟩,.slice va k vc,.int .i64 x.1.1,.int .i64 x.1.2.1,.string x.1.2.2,.slice x.2.1.1 x.2.2.length x.2.1.2] 25)) w5:=by rw[HW5.out];go_grown
   have HL5:=HLIT _ hal
   exact A9 (B:=B) (base:=w.heap.size+2) _ _ (by have:=hal.size;omega) (by simp) rfl (by omega) (vz (by omega) (by omega) h5) (Nat.le_trans h5.size (Nat.le_of_eq (aF _ _ _ _).symm)) (bR (HBW.out.trans (HB5.out.mono HBW.out.size)) (by omega)) (nS n s m x va vc k xs HLn.out) (by show 5<=8;omega) HL5.out.1 HL5.out.2
theorem rC (n:Nat) (c:Cl (n+1)) (B:Nat) (w:World) (hi:jH (n+1) B w c) (h8:c.2.2.length<=8) (hB:B<=w.heap.size):
    Calls Tryz.prog 91 #[.agg (jS (n+1) c).toArray] w (gu B (n+4) (eT n c) w):=by
 obtain⟨⟨s,m,x⟩,⟨a,pc⟩,p⟩:=c
 exact qy n s m x p p.length rfl h8 a pc B w hi.1.1 hi.1.2.1 hi.1.2.2 hi.2.2 hB _ rfl
def KW (n B:Nat) (h:List (Tm (n+4))) (p:List (Cl (n+1))) (w0:World) (base k:Nat) (v:Value) (wr:World):Prop:=
 ∃xs,xs.length=k+2/\GrowT (n+4) B base xs v w0 wr/\aj (fun a b=>same (n+4) a (n+4) b) xs (h++(p.take k).map (eT n))=true
theorem mO (n:Nat) (s:ByteArray) (hs0:s.size<=maxLen) (p:List (Cl (n+1))) (len:Nat) (hpl:Hid (p.length=len)) (h8:len<=6) (h8c:Hid (∀c∈p,c.2.2.length<=8)) (a:Option Addr) (pc:Nat) (B:Nat) (w:World)
    (hp:Hid (Lay B w 13 (jS (n+1)) (jH (n+1) B w) a p)) (hB:B<=w.heap.size) (X:Tm (n+5)) (hX:Hid (X=fQ n (s,(a,pc),p))):
    Calls Tryz.prog 77 #[.agg #[.string s,.slice a len pc]] w (gu B (n+5) X w):=by
 obtain⟨it,hit,htz0,htz1,htz2⟩:=info_parts bP
 have HT:=hide (⟨hit,htz0,htz1,htz2⟩:_/\_/\_/\_)
 clear hit htz0 htz1 htz2
 go_enter Tryz.func77,Tryz.ntmps77
 go_wp2_with fail
 have HN:=hide (ny w (.cells #[.string s,.slice a len pc] 87) (.cells #[.int .i64 0,.int .i64 0,.string ⟨#[]⟩,.slice none 0 0] 25)).2
 have HN1:=hide (ny w (.cells #[.string s,.slice a len pc] 87) (.cells #[.int .i64 0,.int .i64 0,.string ⟨#[]⟩,.slice none 0 0] 25)).1
 generalize hW0:(w.alloc _).alloc _=W0
 rw[hW0]at HN HN1
 have HB0:Hid (Below w.heap.size w W0/\W0.heap.size=w.heap.size+2):=by
  subst hW0
  exact⟨((Below.refl _ _).alloc (Nat.le_refl _) _).alloc (by simp) _,by simp⟩
 have HA0:Hid (∀wr,Below (w.heap.size+2) W0 wr->Below w.heap.size w wr):=fun wr h=>HB0.out.1.trans (h.mono (by omega))
 clear hW0
 have b0:W0.cell? ⟨w.heap.size,0,none⟩=some (.string s):=af HN1.out 0
 have b1:W0.cell? ⟨w.heap.size,1,none⟩=some (.slice a len pc):=af HN1.out 1
 have hq0:w.heap.size<W0.heap.size:=by have:=HB0.out.2;omega
 have HK:Hid (∀w',Below W0.heap.size W0 w'->w'.cell? ⟨w.heap.size,0,none⟩=some (.string s)/\w'.cell? ⟨w.heap.size,1,none⟩=some (.slice a len pc)):=fun w' h=>⟨(ag h _ _ hq0).trans b0,(ag h _ _ hq0).trans b1⟩
 clear HN1
 go_region_held3 (fun w'=>w'.cell? ⟨w.heap.size,0,none⟩=some (.string s)/\w'.cell? ⟨w.heap.size,1,none⟩=some (.slice a len pc)) (first|(go_keep;done)|(refine HK.out _ ?_;go_grown;done))
  ((go_at_call 76;refine(gU _ _).mono ?_;rintro e w1 ⟨rfl,rfl⟩))
 have HM0:Hid (aj (fun a b=>same (n+4) a (n+4) b) [ay mR (n+3),ay s (n+3)] ([ay mR (n+3),ay s (n+3)]++(p.take 0).map (eT n))=true):=by
  show _=true
  simp[aj,gM]
 have HG0:Hid (GrowT (n+4) B (w.heap.size+2) [ay mR (n+3),ay s (n+3)] (.slice (some ⟨W0.heap.size+1+1,0,none⟩) 2 2) W0 (((W0.alloc (.cells #[.int .i64 2,.int .i64 0,.string ⟨#[98,101,104]⟩,.slice none 0 0] 25)).alloc (.cells #[.int .i64 2,.int .i64 0,.string s,.slice none 0 0] 25)).alloc (.cells #[.int .i64 2,.int .i64 0,.string ⟨#[98,101,104]⟩,.slice none 0 0,.int .i64 2,.int .i64 0,.string s,.slice none 0 0] 25)).drew):=by
  have h:=Grow.lit (T:=25) (k:=4) (B:=B) (base:=w.heap.size+2) (aX (n+4)) [ay mR (n+3),ay s (n+3)] (w0:=W0) (w1:=(W0.alloc (.cells #[.int .i64 2,.int .i64 0,.string ⟨#[98,101,104]⟩,.slice none 0 0] 25)).alloc (.cells #[.int .i64 2,.int .i64 0,.string s,.slice none 0 0] 25)) (cs:= #[.int .i64 2,.int .i64 0,.string ⟨#[98,101,104]⟩,.slice none 0 0,.int .i64 2,.int .i64 0,.string s,.slice none 0 0]) rfl (gX _) (by show 2<=maxLen;unfold maxLen;omega) (by have:=HB0.out.2;simp;omega) (((Below.refl _ _).alloc (by have:=HB0.out.2;omega) _).alloc (by have:=HB0.out.2;simp;omega) _) (fun y hy=>by
   simp only[List.mem_cons,List.not_mem_nil,or_false]at hy
   rcases hy with rfl|rfl
   ·exact⟨bO _ _ (dO _ (by decide)) _ _,fB _ _ _⟩
   ·exact⟨bO _ _ hs0 _ _,fB _ _ _⟩)
  have e:((W0.alloc (.cells #[.int .i64 2,.int .i64 0,.string ⟨#[98,101,104]⟩,.slice none 0 0] 25)).alloc (.cells #[.int .i64 2,.int .i64 0,.string s,.slice none 0 0] 25)).heap.size=W0.heap.size+1+1:=by simp
  rw[e]at h
  exact h.later (aX _) (by have:=HB0.out.2;simp;omega) (Below.refl _ _).drew
 have HK1:=hide (HK.out _ (show Below W0.heap.size W0 (((W0.alloc (.cells #[.int .i64 2,.int .i64 0,.string ⟨#[98,101,104]⟩,.slice none 0 0] 25)).alloc (.cells #[.int .i64 2,.int .i64 0,.string s,.slice none 0 0] 25)).alloc (.cells #[.int .i64 2,.int .i64 0,.string ⟨#[98,101,104]⟩,.slice none 0 0,.int .i64 2,.int .i64 0,.string s,.slice none 0 0] 25)).drew by go_grown))
 generalize hWi:(((W0.alloc _).alloc _).alloc _).drew=Wi
 rw[hWi]at HG0 HK1
 have i1:Wi.cell? ⟨w.heap.size,1,none⟩=some (.slice a len pc):=HK1.out.2
 clear hWi HK HK1 b0 b1
 go_wp2_with fail
 go_loopw [3,14] (fun v i wr=>∃(k:Nat) (u:Value),k<=len/\i=.int .i64 k/\u=v/\Hid (KW n B ([ay mR (n+3),ay s (n+3)]) p W0 (w.heap.size+2) k u wr)) (fun _ i _=>len-(intOf i).toNat)
 case atStart=>exact⟨0,_,by omega,rfl,rfl,_,rfl,HG0.out,HM0.out⟩
 case round=>
  clear HG0 HM0
  obtain⟨k,v,hk,rfl,rfl,HR⟩:=hrel
  obtain⟨xs,HL,HG,HM⟩:∃xs:List (Tm (n+4)),Hid (xs.length=k+2)/\Hid (GrowT (n+4) B (w.heap.size+2) xs v W0 wr)/\Hid (aj (fun a b=>same (n+4) a (n+4) b) xs (([ay mR (n+3),ay s (n+3)])++(p.take k).map (eT n))=true):=HR.out
  clear HR
  have HBW:=hide (HA0.out wr HG.out.1)
  have hbase:w.heap.size+2<=wr.heap.size:=by have:=HG.out.1.size;have:=HB0.out.2;omega
  by_cases hlt:k<len
  ·obtain⟨y,hy⟩:∃y,p[k]? =some y:=⟨p[k]'(by rw[hpl.out];exact hlt),List.getElem?_eq_getElem _⟩
   have HS:=hide (gY (eT n) p k y hy)
   obtain⟨pb,po,rfl,hpb,⟨⟨x0,x1,x2,x3⟩,⟨x4,x5,x6,x7⟩,x8,x9,x10,x11,x12⟩,hi⟩:=(fH (dK (n+1)) (HBW.out.mono hB) hp.out).cl k y hy
   have hB':B<=wr.heap.size:=by omega
   have HY:=hide hy
   have HC:Hid (∀w1,Below wr.heap.size wr w1->Calls Tryz.prog 91 #[.agg #[.int .i64 y.1.1.1.1,.int .i64 y.1.1.1.2.1,.string y.1.1.1.2.2,.slice y.1.1.2.1.1 y.1.1.2.2.length y.1.1.2.1.2,.int .i64 y.1.2.1.1.1,.int .i64 y.1.2.1.1.2.1,.string y.1.2.1.1.2.2,.slice y.1.2.1.2.1.1 y.1.2.1.2.2.length y.1.2.1.2.1.2,.slice y.2.1.1 y.2.2.length y.2.1.2,.int .i64 y.1.2.2.1.1,.int .i64 y.1.2.2.1.2.1,.string y.1.2.2.1.2.2,.slice y.1.2.2.2.1.1 y.1.2.2.2.2.length y.1.2.2.2.1.2]] w1 (gu B (n+4) (eT n y) w1)):=
    fun w1 hw=>rC n y B w1 ((dK (n+1)).below (hw.mono hB') hi) (h8c.out y (List.mem_of_getElem? HY.out)) (Nat.le_trans hB' hw.size)
   clear hi hy
   generalize eT n y=Y at*
   have hk1:(0:Int)<=(k:Int):=by omega
   have hk2:(k:Int)<(len:Int):=by omega
   have hpw:pb<wr.heap.size:=by omega
   obtain⟨va,vc,hv⟩:=HG.out.slice
   rw[HL.out]at hv
   subst hv
   go_wp2_with fail
   refine(HC.out _ aM).mono ?_
   rintro e w3 ⟨z,rfl,HZ⟩
   have HB3:Hid (Below wr.heap.size wr w3):=aM.trans (HZ.out.1.mono (by simp))
   have e3:val (n+4) z=.agg #[.int .i64 z.1.1,.int .i64 z.1.2.1,.string z.1.2.2,.slice z.2.1.1 z.2.2.length z.2.1.2]:=rfl
   rw[e3]
   have HST:=fun(o:Obj) (g c:Nat) (w4:World) hown hgrow hat=>hide (HG.out.app HL.out (by omega) hbase HB3.out z HZ.out.2.1 (HZ.out.2.2.1.mono fun b hb=>by simp at hb;omega) (o:=o) (g:=g) (c:=c) (w4:=w4) hown hgrow hat)
   have h3s:wr.heap.size<=w3.heap.size:=HB3.out.size
   clear e3 HC x0 x1 x2 x3 x4 x5 x6 x7 x8 x9 x10 x11 x12
   go_wp2_with (at_builtin;refine wpList_append_lies _ rfl _ _ 23 rfl (w.heap.size+2) 25 it _ 4 56 Tryz.underlying23 HT.out.1 HT.out.2.1 HT.out.2.2.1 HT.out.2.2.2 rfl (by decide) (.slice va (k+2) vc) (k+2) (xs.flatMap (fw (n+4))) (by simp[Act.eval]) (HG.out.own HL.out HB3.out _) ⟨w3.heap.size,0,none⟩ 1 1 (fw (n+4) z) (by simp[Act.eval]) rfl (wO w3 (dF (n+4) z) rfl) (gZ _ _) (by decide) (by unfold maxLen;omega) (by omega) (by simp;omega) (w3.heap.size+1) (by simp) ?_;intro g4 c4 w4 hown4 hgrow4 hat4 hlt4;have HS4:=HST _ g4 c4 w4 hown4 hgrow4 hat4;clear hown4 hgrow4 hat4)
   go_roundw
   case rel=>exact⟨k+1,_,by omega,by go_num,rfl,xs++ [z],by have:=HL.out;simp;omega,HS4.out,by rw[HS.out,<-List.append_assoc];exact eY _ _ _ _ _ HM.out HZ.out.2.2.2⟩
   case measure=>simp[intOf];omega
  ·obtain rfl:k=len:=by omega
   obtain⟨va,vc,hv⟩:=HG.out.slice
   rw[HL.out]at hv
   subst hv
   have HX1:=hide ((HG.out.1.block (w.heap.size+1) (by omega)).trans HN.out)
   have d0:wr.cell? ⟨w.heap.size+1,0,none⟩=some (.int .i64 0):=af HX1.out 0
   have d1:wr.cell? ⟨w.heap.size+1,1,none⟩=some (.int .i64 0):=af HX1.out 1
   have d2:wr.cell? ⟨w.heap.size+1,2,none⟩=some (.string ⟨#[]⟩):=af HX1.out 2
   have d3:wr.cell? ⟨w.heap.size+1,3,none⟩=some (.slice none 0 0):=af HX1.out 3
   have f0:=fun j=>bU HX1.out j
   have hq1:w.heap.size+1<wr.heap.size:=by omega
   have HF:=fun(W w':World) hb hw hsz=>hide (GrowT.tells (w:=w) (ys:=([ay mR (n+3),ay s (n+3)])++p.map (eT n)) (w':=w') (HG.out.later (aX _) hbase (w1:=W) hb) (by omega) (by have h:=HM.out;rw[List.take_of_length_le (by rw[hpl.out];omega)]at h;exact h) hw hsz)
   clear HX1 HN
   go_wp2_with (go_at_call 78;refine(dQ _ _ _ _).mono ?_;rintro e w5 ⟨rfl,hw5⟩;have HB5:=hide (show Below wr.heap.size wr w5 by rw[hw5];go_grown);clear hw5;replace d0:=(ag HB5.out _ _ hq1).trans d0;replace d1:=(ag HB5.out _ _ hq1).trans d1;replace d2:=(ag HB5.out _ _ hq1).trans d2;replace d3:=(ag HB5.out _ _ hq1).trans d3;replace f0:=fun j=>(dP HB5.out _ j hq1).trans (f0 j))
   refine bodyPost_ret (v:=.agg #[.int .i64 4,.int .i64 0,.string ⟨#[]⟩,.slice va (k+2) vc]) (by simp[results,Tryz.results77,go_sem,d0,d1,d2,d3]) rfl ?_
   rw[hX.out]
   obtain⟨a',c',e',H⟩:=(HF w5 (bG w5 (w.heap.size+1) 0 (.int .i64 4) (.int .i64 0) (.string ⟨#[]⟩) (.slice va (k+2) vc)) HB5.out (vz (by omega) (by omega) (Below.refl _ _)) (Nat.le_of_eq (aF _ _ _ _).symm)).out (bR (HBW.out.trans (HB5.out.mono HBW.out.size)) (by omega))
   rw[HL.out]at e' H
   injection e' with e1 e2 e3
   subst e1 e3
   exact H
theorem nE (n:Nat) (b:Bh (n+1)) (B:Nat) (w:World) (hi:Bj (n+1) B w b) (h6:b.2.2.length<=6) (h8:∀c∈b.2.2,c.2.2.length<=8) (hB:B<=w.heap.size):
    Calls Tryz.prog 77 #[.agg (EC (n+1) b).toArray] w (gu B (n+5) (fQ n b) w):=by
 obtain⟨s,⟨a,pc⟩,p⟩:=b
 exact mO n s hi.1 p p.length rfl h6 h8 a pc B w hi.2.2 hB _ rfl
def KX (n B:Nat) (h:List (Tm (n+5))) (p:List (Bh (n+1))) (w0:World) (base k:Nat) (v:Value) (wr:World):Prop:=
 ∃xs,xs.length=k+1/\GrowT (n+5) B base xs v w0 wr/\aj (fun a b=>same (n+5) a (n+5) b) xs (h++(p.take k).map (fQ n))=true
theorem ow (n:Nat) (p:List (Bh (n+1))) (len:Nat) (hpl:Hid (p.length=len)) (h8:len<=7) (h8c:Hid (∀b∈p,b.2.2.length<=6/\∀c∈b.2.2,c.2.2.length<=8)) (a:Option Addr) (pc:Nat) (B:Nat) (w:World)
    (hp:Hid (PgIn (n+1) B w a p)) (hB:B<=w.heap.size) (X:Tm (n+6)) (hX:Hid (X=dx n p)):
    Calls Tryz.prog 61 #[.slice a len pc] w (gu B (n+6) X w):=by
 obtain⟨it,hit,htz0,htz1,htz2⟩:=info_parts bP
 have HT:=hide (⟨hit,htz0,htz1,htz2⟩:_/\_/\_/\_)
 clear hit htz0 htz1 htz2
 go_enter Tryz.func61,Tryz.ntmps61
 go_wp2_with (go_at_call 76;refine(gU _ _).mono ?_;rintro e w1 ⟨rfl,rfl⟩)
 have HN:=hide (heap_alloc_new w (.cells #[.int .i64 0,.int .i64 0,.string ⟨#[]⟩,.slice none 0 0] 25))
 have HM0:Hid (aj (fun a b=>same (n+5) a (n+5) b) [ay kw (n+4)] ([ay kw (n+4)]++(p.take 0).map (fQ n))=true):=by
  show _=true
  simp[aj,gM]
 generalize hW0:w.alloc (.cells #[.int .i64 0,.int .i64 0,.string ⟨#[]⟩,.slice none 0 0] 25)=W0
 rw[hW0]at HN
 have HB0:Hid (Below w.heap.size w W0/\W0.heap.size=w.heap.size+1):=by
  subst hW0
  exact⟨(Below.refl _ _).alloc (Nat.le_refl _) _,by simp⟩
 have HA0:Hid (∀wr,Below (w.heap.size+1) W0 wr->Below w.heap.size w wr):=fun wr h=>HB0.out.1.trans (h.mono (by omega))
 clear hW0
 have HG0:Hid (GrowT (n+5) B (w.heap.size+1) [ay kw (n+4)] (.slice (some ⟨w.heap.size+1+1,0,none⟩) 1 1) W0 ((W0.alloc (.cells #[.int .i64 2,.int .i64 0,.string ⟨#[99,111,100,101]⟩,.slice none 0 0] 25)).alloc (.cells #[.int .i64 2,.int .i64 0,.string ⟨#[99,111,100,101]⟩,.slice none 0 0] 25))):=by
  have h:=Grow.lit (T:=25) (k:=4) (B:=B) (base:=w.heap.size+1) (aX (n+5)) [ay kw (n+4)] (w0:=W0) (w1:=W0.alloc (.cells #[.int .i64 2,.int .i64 0,.string ⟨#[99,111,100,101]⟩,.slice none 0 0] 25)) (cs:= #[.int .i64 2,.int .i64 0,.string ⟨#[99,111,100,101]⟩,.slice none 0 0]) rfl (gX _) (by show 1<=maxLen;unfold maxLen;omega) (by have:=HB0.out.2;simp;omega) ((Below.refl _ _).alloc (by have:=HB0.out.2;omega) _) (fun y hy=>by
   simp only[List.mem_cons,List.not_mem_nil,or_false]at hy
   subst hy
   exact⟨bO _ _ (dO _ (by decide)) _ _,fB _ _ _⟩)
  have e:(W0.alloc (.cells #[.int .i64 2,.int .i64 0,.string ⟨#[99,111,100,101]⟩,.slice none 0 0] 25)).heap.size=w.heap.size+1+1:=by have:=HB0.out.2;simp;omega
  rw[e]at h
  exact h
 generalize hWi:(W0.alloc _).alloc _=Wi
 rw[hWi]at HG0
 clear hWi
 go_loopw [3,10] (fun v i wr=>∃(k:Nat) (u:Value),k<=len/\i=.int .i64 k/\u=v/\Hid (KX n B ([ay kw (n+4)]) p W0 (w.heap.size+1) k u wr)) (fun _ i _=>len-(intOf i).toNat)
 case atStart=>exact⟨0,_,by omega,rfl,rfl,_,rfl,HG0.out,HM0.out⟩
 case round=>
  clear HG0 HM0
  obtain⟨k,v,hk,rfl,rfl,HR⟩:=hrel
  obtain⟨xs,HL,HG,HM⟩:∃xs:List (Tm (n+5)),Hid (xs.length=k+1)/\Hid (GrowT (n+5) B (w.heap.size+1) xs v W0 wr)/\Hid (aj (fun a b=>same (n+5) a (n+5) b) xs (([ay kw (n+4)])++(p.take k).map (fQ n))=true):=HR.out
  clear HR
  have HBW:=hide (HA0.out wr HG.out.1)
  have hbase:w.heap.size+1<=wr.heap.size:=by have:=HG.out.1.size;have:=HB0.out.2;omega
  by_cases hlt:k<len
  ·obtain⟨y,hy⟩:∃y,p[k]? =some y:=⟨p[k]'(by rw[hpl.out];exact hlt),List.getElem?_eq_getElem _⟩
   have HS:=hide (gY (fQ n) p k y hy)
   obtain⟨pb,po,rfl,hpb,⟨x0,x1⟩,hi⟩:=(PgIn.below (HBW.out.mono hB) hp.out).bh k y hy
   have hB':B<=wr.heap.size:=by omega
   have HY:=hide hy
   have HC:Hid (∀w1,Below wr.heap.size wr w1->Calls Tryz.prog 77 #[.agg #[.string y.1,.slice y.2.1.1 y.2.2.length y.2.1.2]] w1 (gu B (n+5) (fQ n y) w1)):=
    fun w1 hw=>nE n y B w1 ((sZ (n+1)).below (hw.mono hB') hi) (h8c.out y (List.mem_of_getElem? HY.out)).1 (h8c.out y (List.mem_of_getElem? HY.out)).2 (Nat.le_trans hB' hw.size)
   clear hi hy
   generalize fQ n y=Y at*
   have hk1:(0:Int)<=(k:Int):=by omega
   have hk2:(k:Int)<(len:Int):=by omega
   have hpw:pb<wr.heap.size:=by omega
   obtain⟨va,vc,hv⟩:=HG.out.slice
   rw[HL.out]at hv
   subst hv
   go_wp2_with fail
   refine(HC.out _ aM).mono ?_
   rintro e w3 ⟨z,rfl,HZ⟩
   have HB3:Hid (Below wr.heap.size wr w3):=aM.trans (HZ.out.1.mono (by simp))
   have e3:val (n+5) z=.agg #[.int .i64 z.1.1,.int .i64 z.1.2.1,.string z.1.2.2,.slice z.2.1.1 z.2.2.length z.2.1.2]:=rfl
   rw[e3]
   have HST:=fun(o:Obj) (g c:Nat) (w4:World) hown hgrow hat=>hide (HG.out.app HL.out (by omega) hbase HB3.out z HZ.out.2.1 (HZ.out.2.2.1.mono fun b hb=>by simp at hb;omega) (o:=o) (g:=g) (c:=c) (w4:=w4) hown hgrow hat)
   have h3s:wr.heap.size<=w3.heap.size:=HB3.out.size
   clear e3 HC x0 x1
   go_wp2_with (at_builtin;refine wpList_append_lies _ rfl _ _ 23 rfl (w.heap.size+1) 25 it _ 4 56 Tryz.underlying23 HT.out.1 HT.out.2.1 HT.out.2.2.1 HT.out.2.2.2 rfl (by decide) (.slice va (k+1) vc) (k+1) (xs.flatMap (fw (n+5))) (by simp[Act.eval]) (HG.out.own HL.out HB3.out _) ⟨w3.heap.size,0,none⟩ 1 1 (fw (n+5) z) (by simp[Act.eval]) rfl (wO w3 (dF (n+5) z) rfl) (gZ _ _) (by decide) (by unfold maxLen;omega) (by omega) (by simp;omega) (w3.heap.size+1) (by simp) ?_;intro g4 c4 w4 hown4 hgrow4 hat4 hlt4;have HS4:=HST _ g4 c4 w4 hown4 hgrow4 hat4;clear hown4 hgrow4 hat4)
   go_roundw
   case rel=>exact⟨k+1,_,by omega,by go_num,rfl,xs++ [z],by have:=HL.out;simp;omega,HS4.out,by rw[HS.out,<-List.append_assoc];exact eY _ _ _ _ _ HM.out HZ.out.2.2.2⟩
   case measure=>simp[intOf];omega
  ·obtain rfl:k=len:=by omega
   obtain⟨va,vc,hv⟩:=HG.out.slice
   rw[HL.out]at hv
   subst hv
   have HX1:=hide ((HG.out.1.block (w.heap.size) (by omega)).trans HN.out)
   have d0:wr.cell? ⟨w.heap.size,0,none⟩=some (.int .i64 0):=af HX1.out 0
   have d1:wr.cell? ⟨w.heap.size,1,none⟩=some (.int .i64 0):=af HX1.out 1
   have d2:wr.cell? ⟨w.heap.size,2,none⟩=some (.string ⟨#[]⟩):=af HX1.out 2
   have d3:wr.cell? ⟨w.heap.size,3,none⟩=some (.slice none 0 0):=af HX1.out 3
   have f0:=fun j=>bU HX1.out j
   have hq1:w.heap.size<wr.heap.size:=by omega
   have HF:=fun(W w':World) hb hw hsz=>hide (GrowT.tells (w:=w) (ys:=([ay kw (n+4)])++p.map (fQ n)) (w':=w') (HG.out.later (aX _) hbase (w1:=W) hb) (by omega) (by have h:=HM.out;rw[List.take_of_length_le (by rw[hpl.out];omega)]at h;exact h) hw hsz)
   clear HX1 HN
   go_wp2_with (go_at_call 78;refine(dQ _ _ _ _).mono ?_;rintro e w5 ⟨rfl,hw5⟩;have HB5:=hide (show Below wr.heap.size wr w5 by rw[hw5];go_grown);clear hw5;replace d0:=(ag HB5.out _ _ hq1).trans d0;replace d1:=(ag HB5.out _ _ hq1).trans d1;replace d2:=(ag HB5.out _ _ hq1).trans d2;replace d3:=(ag HB5.out _ _ hq1).trans d3;replace f0:=fun j=>(dP HB5.out _ j hq1).trans (f0 j))
   refine bodyPost_ret (v:=.agg #[.int .i64 4,.int .i64 0,.string ⟨#[]⟩,.slice va (k+1) vc]) (by simp[results,Tryz.results61,go_sem,d0,d1,d2,d3]) rfl ?_
   rw[hX.out]
   obtain⟨a',c',e',H⟩:=(HF w5 (bG w5 (w.heap.size) 0 (.int .i64 4) (.int .i64 0) (.string ⟨#[]⟩) (.slice va (k+1) vc)) HB5.out (vz (by omega) (by omega) (Below.refl _ _)) (Nat.le_of_eq (aF _ _ _ _).symm)).out (bR (HBW.out.trans (HB5.out.mono HBW.out.size)) (by omega))
   rw[HL.out]at e' H
   injection e' with e1 e2 e3
   subst e1 e3
   exact H
theorem qw (n:Nat) (p:List (Bh (n+1))) (a:Option Addr) (pc:Nat) (B:Nat) (w:World) (hi:PgIn (n+1) B w a p) (h7:p.length<=7) (h8:∀b∈p,b.2.2.length<=6/\∀c∈b.2.2,c.2.2.length<=8) (hB:B<=w.heap.size):
    Calls Tryz.prog 61 #[.slice a p.length pc] w (gu B (n+6) (dx n p) w):=
 ow n p p.length rfl h7 h8 a pc B w hi hB _ rfl
def zT (N:Nat):Tm (N+1):=((0,0,.empty),(none,0),[])
def oQ (n:Nat) (p:List (Bh (n+1))):Int:=if og (n+1) p then aP (n+6) (dx n p)else 5
def JU (n:Nat) (p:List (Bh (n+1))):Tm (n+6):=if oQ n p=0 then dx n p else zT (n+5)
def xz (B n:Nat) (p:List (Bh (n+1))) (w:World) (e:Ending) (w':World):Prop:=
 ∃y:Tm (n+6),e=.returned (.tuple #[val (n+6) y,.int .i64 (oQ n p)])/\Hid (Below w.heap.size w w'/\In w'.heap.size w' (n+6) y/\Off (fun b=>b<B∨w.heap.size<=b) (n+6) y/\same (n+6) y (n+6) (JU n p)=true)
theorem Fu (N B:Nat) (w:World):In B w (N+1) (zT N):=⟨⟨by simp[zT,dZ],by simp[zT,dZ],Nat.zero_le _,by simp[zT],by simp[zT]⟩,Or.inl rfl⟩
theorem qE {B n:Nat} {p:List (Bh (n+1))} {w w':World} {k:Int} (hb:Below w.heap.size w w') (hk:k=oQ n p) (h0:¬k=0):xz B n p w (.returned (.tuple #[.agg #[.int .i64 0,.int .i64 0,.string .empty,.slice none 0 0],.int .i64 k])) w':=by
 subst hk
 refine⟨zT (n+5),rfl,hb,Fu _ _ _,Or.inl rfl, ?_⟩
 unfold JU
 rw[if_neg h0]
 exact lw (Fu _ 0 w)
theorem uN {n:Nat} {p:List (Bh n)} (h:og n p=true):p.length<=7/\∀b∈p,b.2.2.length<=6/\∀c∈b.2.2,c.2.2.length<=8:=by
 simp only[og,AQ,wQ,Bool.and_eq_true,decide_eq_true_eq,List.all_eq_true]at h
 refine⟨by omega,fun b hb=>⟨by have:=(h.2 b hb).1.2;omega,fun c hc=>by have:=((h.2 b hb).2 c hc).1;omega⟩⟩
theorem tu (w:World) (v0 v1 v2 v3:Value) (t:TypeId) {w':World} (hb:Below (w.alloc (.cells #[v0,v1,v2,v3] t)).heap.size (w.alloc (.cells #[v0,v1,v2,v3] t)) w'):w'.heap[w.heap.size]? =some (.cells #[v0,v1,v2,v3] t):=
 (hb.block _ (by simp)).trans (heap_alloc_new w _)
theorem Jm (n:Nat) (p:List (Bh (n+1))) (a:Option Addr) (pc:Nat) (hl:p.length<=pc) (hpc:pc<=maxLen) (B:Nat) (w:World) (hp:PgIn (n+1) B w a p) (hB:B<=w.heap.size) (hN:og (n+1) p=true->(nodes (n+6) (dx n p)).length<=2097152):
    Calls Tryz.prog 36 #[.slice a p.length pc] w (xz B n p w):=by
 have HIP:Hid (∀w1,Below w.heap.size w w1->Calls Tryz.prog 60 #[.slice a p.length pc] w1 fun e w'=>e=.returned (.bool (og (n+1) p))/\Below w1.heap.size w1 w'):=
  fun w1 h=>tO n p p.length rfl a pc B w1 (hp.below (h.mono hB)) (by unfold maxLen at hpc;omega) (Nat.le_trans hB h.size)
 have HTP:Hid (og (n+1) p=true->∀w1,Below w.heap.size w w1->Calls Tryz.prog 61 #[.slice a p.length pc] w1 (gu B (n+6) (dx n p) w1)):=
  fun h w1 h1=>qw n p a pc B w1 (hp.below (h1.mono hB)) (uN h).1 (uN h).2 (Nat.le_trans hB h1.size)
 have HE:Hid (oQ n p=if og (n+1) p then aP (n+6) (dx n p)else 5):=rfl
 have HN:=hide hN
 have HTT:Hid (JU n p=if oQ n p=0 then dx n p else zT (n+5)):=rfl
 clear hp hN hl hpc
 generalize p.length=len at*
 generalize og (n+1) p=r at*
 go_enter Tryz.func36,Tryz.ntmps36
 go_wp2_with fail
 refine(HIP.out _ aM).mono ?_
 rintro e w1 ⟨rfl,hb1⟩
 have HX1:=hide (tu w _ _ _ _ _ hb1)
 have HB1:Hid (Below w.heap.size w w1):=aM.trans (hb1.mono (by simp))
 have hq1:w.heap.size<w1.heap.size:=(Array.getElem?_eq_some_iff.1 HX1.out).1
 clear hb1 HIP
 cases r
 ·have d0:w1.cell? ⟨w.heap.size,0,none⟩=some (.int .i64 0):=af HX1.out 0
  have d1:w1.cell? ⟨w.heap.size,1,none⟩=some (.int .i64 0):=af HX1.out 1
  have d2:w1.cell? ⟨w.heap.size,2,none⟩=some (.string ⟨#[]⟩):=af HX1.out 2
  have d3:w1.cell? ⟨w.heap.size,3,none⟩=some (.slice none 0 0):=af HX1.out 3
  have f0:=fun j=>bU HX1.out j
  clear HTP HX1
  go_wp2_with fail
  exact bodyPost_ret (v:=.tuple #[.agg #[.int .i64 0,.int .i64 0,.string .empty,.slice none 0 0],.int .i64 5]) (by simp[results,Tryz.results36,go_sem,d0,d1,d2,d3];rfl) rfl (qE (bR HB1.out (Nat.le_refl _)) (by rw[HE.out];rfl) (by omega))
 ·have HTP1:=hide (HTP.out rfl w1 HB1.out)
  go_wp2_with fail
  refine HTP1.out.mono ?_
  rintro e w2 ⟨y,rfl,HY⟩
  have HB2:Hid (Below w.heap.size w w2):=HB1.out.trans (HY.out.1.mono HB1.out.size)
  have e3:val (n+6) y=.agg #[.int .i64 y.1.1,.int .i64 y.1.2.1,.string y.1.2.2,.slice y.2.1.1 y.2.2.length y.2.1.2]:=rfl
  have HC:Hid (∀w3,Below w2.heap.size w2 w3->Calls Tryz.prog 51 #[.agg #[.int .i64 y.1.1,.int .i64 y.1.2.1,.string y.1.2.2,.slice y.2.1.1 y.2.2.length y.2.1.2]] w3 fun e w'=>e=.returned (.int .i64 (oQ n p))/\Below w3.heap.size w3 w'):=fun w3 h3=>by
   have:=dS (n+6) y w2.heap.size w3 (HY.out.2.1.below h3) h3.size (by rw[iT _ _ _ _ HY.out.2.2.2];exact HN.out (by simp))
   rw[bu HY.out.2.2.2]at this
   rw[HE.out]
   exact this
  have HCP:Hid (oQ n p=0->∀w3,Below w2.heap.size w2 w3->Calls Tryz.prog 62 #[.agg #[.int .i64 y.1.1,.int .i64 y.1.2.1,.string y.1.2.2,.slice y.2.1.1 y.2.2.length y.2.1.2]] w3 fun e w'=>∃z:Tm (n+6),e=.returned (val (n+6) z)/\Hid (Below w3.heap.size w3 w'/\In w'.heap.size w' (n+6) z/\Off (fun q=>w3.heap.size<=q) (n+6) z/\same (n+6) z (n+6) y=true)):=fun h0 w3 h3=>
   kH (n+6) y w2.heap.size w3 (HY.out.2.1.below h3) h3.size (ax.2 (by have h1:aP (n+6) (dx n p)=0:=(by simpa [HE.out]using h0);rw[iw _ _ _ _ HY.out.2.2.2];exact(aN.1 h1).1))
  have HS:=hide HY.out.2.2.2
  have HX2:=hide ((HY.out.1.block _ hq1).trans HX1.out)
  have hq2:w.heap.size<w2.heap.size:=(Array.getElem?_eq_some_iff.1 HX2.out).1
  rw[e3]
  clear HTP HTP1 HX1 HB1 HY e3 HN
  generalize hE:oQ n p=E at*
  have HEE:=hide hE
  clear hE HE
  go_wp2_with fail
  refine(HC.out _ aM).mono ?_
  rintro e w3 ⟨rfl,hb3⟩
  have HB32:Hid (Below w2.heap.size w2 w3):=aM.trans (hb3.mono (by simp))
  have HB3:Hid (Below w.heap.size w w3):=HB2.out.trans (HB32.out.mono HB2.out.size)
  have HXX:=hide (tu w2 _ _ _ _ _ hb3)
  have HX3:=hide ((HB32.out.block _ hq2).trans HX2.out)
  have hq3:w.heap.size<w3.heap.size:=(Array.getElem?_eq_some_iff.1 HX3.out).1
  have c0:w3.cell? ⟨w2.heap.size,0,none⟩=some (.int .i64 y.1.1):=af HXX.out 0
  have c1:w3.cell? ⟨w2.heap.size,1,none⟩=some (.int .i64 y.1.2.1):=af HXX.out 1
  have c2:w3.cell? ⟨w2.heap.size,2,none⟩=some (.string y.1.2.2):=af HXX.out 2
  have c3:w3.cell? ⟨w2.heap.size,3,none⟩=some (.slice y.2.1.1 y.2.2.length y.2.1.2):=af HXX.out 3
  clear hb3 HC HX2
  by_cases hE0:E=0
  ·subst hE0
   have HCP3:=hide (HCP.out rfl w3 HB32.out)
   clear HCP
   go_wp2_with fail
   refine HCP3.out.mono ?_
   rintro e w4 ⟨z,rfl,HZ⟩
   have HX4:=hide ((HZ.out.1.block _ hq3).trans HX3.out)
   have HB4:Hid (Below w.heap.size w w4):=HB3.out.trans (HZ.out.1.mono HB3.out.size)
   have d0:w4.cell? ⟨w.heap.size,0,none⟩=some (.int .i64 0):=af HX4.out 0
   have d1:w4.cell? ⟨w.heap.size,1,none⟩=some (.int .i64 0):=af HX4.out 1
   have d2:w4.cell? ⟨w.heap.size,2,none⟩=some (.string ⟨#[]⟩):=af HX4.out 2
   have d3:w4.cell? ⟨w.heap.size,3,none⟩=some (.slice none 0 0):=af HX4.out 3
   have f0:=fun j=>bU HX4.out j
   have e4:val (n+6) z=.agg #[.int .i64 z.1.1,.int .i64 z.1.2.1,.string z.1.2.2,.slice z.2.1.1 z.2.2.length z.2.1.2]:=rfl
   rw[e4]
   have HF:Hid (xz B n p w (.returned (.tuple #[.agg #[.int .i64 z.1.1,.int .i64 z.1.2.1,.string z.1.2.2,.slice z.2.1.1 z.2.2.length z.2.1.2],.int .i64 0])) (bG w4 w.heap.size 0 (.int .i64 z.1.1) (.int .i64 z.1.2.1) (.string z.1.2.2) (.slice z.2.1.1 z.2.2.length z.2.1.2))):=by
    refine⟨z,by rw[HEE.out];rfl,bR HB4.out (Nat.le_refl _), ?_,HZ.out.2.2.1.mono fun b hb=>Or.inr (by omega), ?_⟩
    ·rw[aF]
     exact In.off (fun b hb=>au (by omega) _ _ _ _) HZ.out.2.2.1 HZ.out.2.1
    ·rw[show JU n p=dx n p from by simpa using HTT.out]
     exact bL _ _ _ _ _ _ HZ.out.2.2.2 HS.out
   clear HX4 HX3 HZ HB4 c0 c1 c2 c3 e4 HTT
   go_wp2_with fail
   exact bodyPost_ret (v:=.tuple #[.agg #[.int .i64 z.1.1,.int .i64 z.1.2.1,.string z.1.2.2,.slice z.2.1.1 z.2.2.length z.2.1.2],.int .i64 0]) (by simp[results,Tryz.results36,go_sem,d0,d1,d2,d3]) rfl HF.out
  ·have d0:w3.cell? ⟨w.heap.size,0,none⟩=some (.int .i64 0):=af HX3.out 0
   have d1:w3.cell? ⟨w.heap.size,1,none⟩=some (.int .i64 0):=af HX3.out 1
   have d2:w3.cell? ⟨w.heap.size,2,none⟩=some (.string ⟨#[]⟩):=af HX3.out 2
   have d3:w3.cell? ⟨w.heap.size,3,none⟩=some (.slice none 0 0):=af HX3.out 3
   have f0:=fun j=>bU HX3.out j
   have hE1:(E !=0)=true:=by simpa using hE0
   clear HX3 HCP c0 c1 c2 c3
   go_wp2_with fail
   exact bodyPost_ret (v:=.tuple #[.agg #[.int .i64 0,.int .i64 0,.string .empty,.slice none 0 0],.int .i64 E]) (by simp[results,Tryz.results36,go_sem,d0,d1,d2,d3];rfl) rfl (qE (bR HB3.out (Nat.le_refl _)) HEE.out.symm hE0)
theorem gD (s:ByteArray) (w:World):
    Calls Tryz.prog 29 #[.string s] w fun e w'=>e=.returned (.agg #[.int .i64 2,.int .i64 0,.string s,.slice none 0 0])/\w'=w.alloc (.cells #[.int .i64 2,.int .i64 0,.string s,.slice none 0 0] 25):=by
 go_enter Tryz.func29,Tryz.ntmps29
 go_wp2_with fail
 exact bodyPost_ret (v:=.agg #[.int .i64 2,.int .i64 0,.string s,.slice none 0 0]) (by simp[results,Tryz.results29,go_sem]) rfl ⟨rfl,rfl⟩
theorem dV (a:Option Addr) (l c:Nat) (w:World):
    Calls Tryz.prog 30 #[.slice a l c] w fun e w'=>e=.returned (.agg #[.int .i64 4,.int .i64 0,.string ⟨#[]⟩,.slice a l c])/\w'=w.alloc (.cells #[.int .i64 4,.int .i64 0,.string ⟨#[]⟩,.slice a l c] 25):=by
 go_enter Tryz.func30,Tryz.ntmps30
 go_wp2_with fail
 exact bodyPost_ret (v:=.agg #[.int .i64 4,.int .i64 0,.string ⟨#[]⟩,.slice a l c]) (by simp[results,Tryz.results30,go_sem]) rfl ⟨rfl,rfl⟩
theorem Bp (n:Nat) (x:Tm (n+1)):same (n+1) x 1 (zT 0)=aS (n+1) x:=by
 have h1:(x.1.2.2.toList==ByteArray.empty.toList)=x.1.2.2.toList.isEmpty:=by
  have:ByteArray.empty.toList=[]:=by rw[ByteArray.toList_eq];rfl
  rw[this]
  cases x.1.2.2.toList<;>rfl
 have h2:aj (fun(_:Tm n) (_:Tm 0)=>false) x.2.2 []=((x.2.2.length:Int)==0):=by
  cases x.2.2 with
  | nil=>rfl
  | cons a l=>simp[aj];omega
 simp only[same,zT,aS,dF,aO,h1,h2]
theorem nU (n:Nat) (x:Tm (n+1)) (B:Nat) (w:World) (hx:In B w (n+1) x) (hB:B<=w.heap.size):
    Calls Tryz.prog 28 #[.agg #[.int .i64 x.1.1,.int .i64 x.1.2.1,.string x.1.2.2,.slice x.2.1.1 x.2.2.length x.2.1.2]] w fun e w'=>e=.returned (.bool (aS (n+1) x))/\Below w.heap.size w w':=by
 have HS:Hid (∀w1,Below w.heap.size w w1->Calls Tryz.prog 17 #[.agg #[.int .i64 x.1.1,.int .i64 x.1.2.1,.string x.1.2.2,.slice x.2.1.1 x.2.2.length x.2.1.2],.agg #[.int .i64 0,.int .i64 0,.string ⟨#[]⟩,.slice none 0 0]] w1 fun e w'=>e=.returned (.bool (aS (n+1) x))/\Below w1.heap.size w1 w'):=fun w1 h1=>by
  rw[<-Bp]
  exact jK (n+1) x 1 (zT 0) B w1 (hx.below (h1.mono hB)) (Fu 0 B w1) (Nat.le_trans hB h1.size)
 clear hx
 generalize aS (n+1) x=r at*
 go_enter Tryz.func28,Tryz.ntmps28
 go_wp2_with fail
 refine(HS.out _ (by go_grown)).mono ?_
 rintro e w1 ⟨rfl,hb1⟩
 have hb2:Below w.heap.size w w1:=aM.trans (hb1.mono (by simp))
 go_wp2_with fail
 go_ret
 exact⟨rfl,hb2⟩
end Go.Proofs.YtbknffhilfoakaaGreat
