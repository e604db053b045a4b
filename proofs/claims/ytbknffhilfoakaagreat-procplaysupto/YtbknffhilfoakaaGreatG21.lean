/- What is proved here: plain facts and contracts that the claimed theorem stands on. No condition but those that each names. -/
import Derived.Test.YtbknffhilfoakaaGreatG20
namespace Go.Proofs.YtbknffhilfoakaaGreat
open Go.RowKit
set_option maxHeartbeats 2000000
set_option maxRecDepth 100000
def Kn (n:Nat) (M:Nat) (p:List (Bh n)):Prop:=p.length<=M/\∀b∈p,b.2.2.length<=M/\∀c∈b.2.2,c.2.2.length<=M
def RowI {α:Type} (N B:Nat) (f:α->Tm N) (h:List (Tm N)) (p:List α) (w0:World) (base k:Nat) (ok:Bool) (v:Value) (wr:World):Prop:=
 ∃xs,xs.length<=k+h.length/\GrowT N B base xs v w0 wr/\(ok=true->aj (fun a b=>same N a N b) xs (h++(p.take k).map f)=true)
theorem RowI.slice {α:Type} {N B:Nat} {f:α->Tm N} {h:List (Tm N)} {p:List α} {w0:World} {base k:Nat} {ok:Bool} {v:Value} {wr:World} (H:RowI N B f h p w0 base k ok v wr):∃a L c,v=.slice a L c/\L<=k+h.length/\∃xs,xs.length=L/\GrowT N B base xs v w0 wr/\(ok=true->aj (fun a b=>same N a N b) xs (h++(p.take k).map f)=true):=by
 obtain⟨xs,h1,h2,h3⟩:=H
 obtain⟨a,c,e⟩:=h2.slice
 exact⟨a,xs.length,c,e,h1,xs,rfl,h2,h3⟩
theorem GrowT.ownAt {N B base k:Nat} {xs:List (Tm N)} {v:Value} {w0 wr W:World} (h:GrowT N B base xs v w0 wr) (hk:xs.length=k) (h3:Below wr.heap.size wr W):W.ownsRow base 25 4 v k (xs.flatMap (fw N)):=by
 subst hk
 exact own_below h.2.1 h3
theorem GrowT.appAt {N B base k:Nat} {xs:List (Tm N)} {v:Value} {w0 wr W w4:World} {g c:Nat} (h:GrowT N B base xs v w0 wr) (hk:xs.length=k) (hB:B<=base) (hb:base<=wr.heap.size) (h3:Below wr.heap.size wr W) (X:Tm N) (hX:In W.heap.size W N X) (hO:Off (fun b=>b<B∨wr.heap.size<=b) N X)
    (hown:w4.ownsRow base 25 4 (.slice (some ⟨g,0,none⟩) (k+1) c) (k+1) (xs.flatMap (fw N)++fw N X)) (hg:W.grownBy w4 v.ownBlock) (hat:v.ownBlock=some g∨g=W.heap.size):
    GrowT N B base (xs++ [X]) (.slice (some ⟨g,0,none⟩) (k+1) c) w0 w4:=by
 subst hk
 exact Grow.step (aX N) h hB hb h3 X hX hO hown hg hat
theorem RowI.mk {α:Type} {N B:Nat} {f:α->Tm N} {h:List (Tm N)} {p:List α} {w0:World} {base k:Nat} {ok ok':Bool} {v:Value} {wr:World} {xs:List (Tm N)} {X:Tm N} {y:α} (hy:p[k]? =some y) (hl:xs.length<=k+h.length) (hs:ok=true->aj (fun a b=>same N a N b) xs (h++(p.take k).map f)=true) (hg:GrowT N B base (xs++ [X]) v w0 wr) (hok:ok'=true->ok=true/\same N X N (f y)=true):RowI N B f h p w0 base (k+1) ok' v wr:=by
 refine⟨xs++ [X],by simp;omega,hg,fun h1=> ?_⟩
 rw[gY f p k y hy,<-List.append_assoc]
 exact eY _ _ _ _ _ (hs (hok h1).1) (hok h1).2
theorem RowI.skip {α:Type} {N B:Nat} {f:α->Tm N} {h:List (Tm N)} {p:List α} {w0:World} {base k:Nat} {v:Value} {wr:World} {xs:List (Tm N)} (hl:xs.length<=k+h.length) (hg:GrowT N B base xs v w0 wr):RowI N B f h p w0 base (k+1) false v wr:=
 ⟨xs,by omega,hg,fun h1=>by cases h1⟩
theorem kR {W w4:World} {v:Value} (hg:W.grownBy w4 v.ownBlock) {q:Nat} (hq:q<W.heap.size) (hne:v.ownBlock≠some q):w4.heap[q]? =W.heap[q]? :=hg.block q hq (fun e=>hne e.symm)
theorem GrowT.apart {N B base:Nat} {xs:List (Tm N)} {v:Value} {w0 wr:World} (h:GrowT N B base xs v w0 wr) {q:Nat} (hq:wr.heap.size<=q∨q<base):v.ownBlock≠some q:=fun e=>by
 have:=h.2.1.lt q e
 omega
theorem FN {n B:Nat} {ys:ByteArray} {cls:List (Cl (n+1))} {ok:Bool} {wc:World} (hs:ys.size<=maxLen):
    RowI (n+4) B (eT n) [ay mR (n+3),ay ys (n+3)] cls wc wc.heap.size 0 ok (.slice (some ⟨wc.heap.size+1+1,0,none⟩) 2 2) (((wc.alloc (.cells #[.int .i64 2,.int .i64 0,.string ⟨#[98,101,104]⟩,.slice none 0 0] 25)).alloc (.cells #[.int .i64 2,.int .i64 0,.string ys,.slice none 0 0] 25)).alloc (.cells #[.int .i64 2,.int .i64 0,.string ⟨#[98,101,104]⟩,.slice none 0 0,.int .i64 2,.int .i64 0,.string ys,.slice none 0 0] 25)).drew:=by
 have h:=Grow.lit (T:=25) (k:=4) (B:=B) (base:=wc.heap.size) (aX (n+4)) [ay mR (n+3),ay ys (n+3)] (w0:=wc) (w1:=(wc.alloc (.cells #[.int .i64 2,.int .i64 0,.string ⟨#[98,101,104]⟩,.slice none 0 0] 25)).alloc (.cells #[.int .i64 2,.int .i64 0,.string ys,.slice none 0 0] 25)) (cs:= #[.int .i64 2,.int .i64 0,.string ⟨#[98,101,104]⟩,.slice none 0 0,.int .i64 2,.int .i64 0,.string ys,.slice none 0 0]) rfl (gX _) (by show 2<=maxLen;unfold maxLen;omega) (by simp;omega) (((Below.refl _ _).alloc (Nat.le_refl _) _).alloc (by simp) _) (fun y hy=>by
  simp only[List.mem_cons,List.not_mem_nil,or_false]at hy
  rcases hy with rfl|rfl
  ·exact⟨bO _ _ (dO _ (by decide)) _ _,fB _ _ _⟩
  ·exact⟨bO _ _ hs _ _,fB _ _ _⟩)
 have e:((wc.alloc (.cells #[.int .i64 2,.int .i64 0,.string ⟨#[98,101,104]⟩,.slice none 0 0] 25)).alloc (.cells #[.int .i64 2,.int .i64 0,.string ys,.slice none 0 0] 25)).heap.size=wc.heap.size+1+1:=by simp
 rw[e]at h
 exact⟨_,by simp,h.later (aX _) (by simp;omega) (Below.refl _ _).drew,fun _=>by simp[aj,gM]⟩
theorem qI {B N:Nat} (xs:List (Tm N)) {w w1 W:World} {cs:Array Value} {g L:Nat} (h1:Below w.heap.size w w1) (hg:g=w1.heap.size) (hL:L=xs.length) (h2:Below (w1.alloc (.cells cs 25)).heap.size (w1.alloc (.cells cs 25)) W) (hcs:cs.toList=xs.flatMap (fw N)) (hm:xs.length<=8) (hBw:B<=w.heap.size) (hX:∀y∈xs,In B w N y):
    In W.heap.size W (N+1) ((4,0,.empty),(some ⟨g,0,none⟩,L),xs)/\Off (fun b=>b<B∨w.heap.size<=b) (N+1) ((4,0,.empty),(some ⟨g,0,none⟩,L),xs)/\same (N+1) ((4,0,.empty),(some ⟨g,0,none⟩,L),xs) (N+1) (bV N xs)=true:=by
 subst hg hL
 have h:=Grow.lit (T:=25) (k:=4) (B:=B) (base:=w1.heap.size) (aX N) xs (w0:=w1) hcs (gX N) (by unfold maxLen;omega) (Nat.le_refl _) (Below.refl _ _) (fun y hy=>⟨((hX y hy).below (h1.mono hBw)).mono (Nat.le_trans hBw h1.size),(iR (hX y hy)).mono fun b hb=>Or.inl hb⟩)
 have k:=GrowT.tup (Grow.later (aX N) h (by simp) h2)
 exact⟨k.1,k.2.mono fun b hb=>by have:=h1.size;omega,bX rfl (gP _ _ fun y hy=>lw (hX y hy))⟩
theorem iC (Z:World) (o:Obj) {g:Nat} (hg:g=Z.heap.size):(Z.alloc o).drew.heap[g]? =some o:=by
 subst hg
 exact heap_alloc_new Z o
theorem lu (Z:World) (o:Obj) {g:Nat} (hg:g=Z.heap.size):(Z.alloc o).heap[g]? =some o:=by
 subst hg
 exact heap_alloc_new Z o
theorem lD {w:World} {q:Nat} {c0 c1 c2 c3 c4 c5 c6 c7 c8 c9 c10:Value} {t:TypeId} (h:w.heap[q]? =some (.cells #[c0,c1,c2,c3,c4,c5,c6,c7,c8,c9,c10] t)):
    w.cell? ⟨q,1,none⟩=some c1/\w.cell? ⟨q,2,none⟩=some c2/\w.cell? ⟨q,3,none⟩=some c3/\w.cell? ⟨q,4,none⟩=some c4/\w.cell? ⟨q,5,none⟩=some c5/\w.cell? ⟨q,6,none⟩=some c6/\w.cell? ⟨q,7,none⟩=some c7/\w.cell? ⟨q,8,none⟩=some c8/\w.cell? ⟨q,9,none⟩=some c9/\w.cell? ⟨q,10,none⟩=some c10:=
 ⟨af h 1,af h 2,af h 3,af h 4,af h 5,af h 6,af h 7,af h 8,af h 9,af h 10⟩
theorem Hd {n:Nat} (t x:Tm n) (s:ByteArray) (v:Int):iN n (2,(t,x),(s,v))=(aS n t && bJ s && eZ v 0 3):=by
 have h:decide (v<4)=decide (v<=3):=by
  by_cases h:v<4
  ·rw[decide_eq_true h,decide_eq_true (by omega)]
  ·rw[decide_eq_false h,decide_eq_false (by omega)]
 show (aS n t && bJ s && decide (0<=v) && decide (v<4))=(aS n t && bJ s && (decide (0<=v) && decide (v<=3)))
 rw[h,Bool.and_assoc]
theorem Dj {n B base:Nat} {s m x:Tm (n+1)} {w wr w1:World} {A:Tm (n+3)} (hB:B<=w.heap.size) (hs:In B w (n+1) s) (hm:In B w (n+1) m) (hx:In B w (n+1) x) (hbw:Below w.heap.size w wr) (hA:In wr.heap.size wr (n+3) A/\Off (fun b=>b<B∨base<=b) (n+3) A) (h1:Below wr.heap.size wr w1):
    ∀y∈[ay zH (n+2),lift (n+3) (n+1) s,lift (n+3) (n+1) m,A,lift (n+3) (n+1) x],In w1.heap.size w1 (n+3) y/\Off (fun b=>b<B∨base<=b) (n+3) y:=by
 have L:∀t:Tm (n+1),In B w (n+1) t->In w1.heap.size w1 (n+3) (lift (n+3) (n+1) t)/\Off (fun b=>b<B∨base<=b) (n+3) (lift (n+3) (n+1) t):=fun t ht=>by
  have h2:=fZ (n+3) (n+1) (by omega) t B w ht
  have hb:=hbw.trans (h1.mono hbw.size)
  exact⟨(h2.below (hb.mono hB)).mono (Nat.le_trans hB hb.size),(iR h2).mono fun b hb=>Or.inl hb⟩
 intro y hy
 simp only[List.mem_cons,List.not_mem_nil,or_false]at hy
 rcases hy with rfl|rfl|rfl|rfl|rfl
 ·exact⟨bO _ _ (dO _ (by decide)) _ _,fB _ _ _⟩
 ·exact L s hs
 ·exact L m hm
 ·exact⟨(hA.1.below h1).mono h1.size,hA.2⟩
 ·exact L x hx
theorem yQ {n B:Nat} {s m x:Tm (n+1)} {w:World} {A:Tm (n+3)} {ys:List (Tm (n+2))} (hs:In B w (n+1) s) (hm:In B w (n+1) m) (hx:In B w (n+1) x) (hAs:same (n+3) A (n+3) (bV (n+2) ys)=true):
    aj (fun a b=>same (n+3) a (n+3) b) [ay zH (n+2),lift (n+3) (n+1) s,lift (n+3) (n+1) m,A,lift (n+3) (n+1) x] [ay zH (n+2),lift (n+3) (n+1) s,lift (n+3) (n+1) m,bV (n+2) ys,lift (n+3) (n+1) x]=true:=by
 have S:∀t:Tm (n+1),In B w (n+1) t->same (n+3) (lift (n+3) (n+1) t) (n+3) (lift (n+3) (n+1) t)=true:=fun t ht=>lw (fZ (n+3) (n+1) (by omega) t B w ht)
 simp only[aj,S s hs,S m hm,S x hx,hAs,gM,Bool.and_self]
theorem EG {B N base:Nat} (xs:List (Tm N)) {w1 W:World} {cs:Array Value} {g L:Nat} (hb1:base<=w1.heap.size) (hg:g=w1.heap.size) (hL:L=xs.length) (h2:Below (w1.alloc (.cells cs 25)).heap.size (w1.alloc (.cells cs 25)) W) (hcs:cs.toList=xs.flatMap (fw N)) (hm:xs.length<=8) (hX:∀y∈xs,In w1.heap.size w1 N y/\Off (fun b=>b<B∨base<=b) N y):
    In W.heap.size W (N+1) ((4,0,.empty),(some ⟨g,0,none⟩,L),xs)/\Off (fun b=>b<B∨base<=b) (N+1) ((4,0,.empty),(some ⟨g,0,none⟩,L),xs):=by
 subst hg hL
 have h:=Grow.lit (T:=25) (k:=4) (B:=B) (base:=base) (aX N) xs (w0:=w1) hcs (gX N) (by unfold maxLen;omega) hb1 (Below.refl _ _) hX
 exact GrowT.tup (Grow.later (aX N) h (by simp;omega) h2)
theorem AO {w:World} {q:Nat} {c0 c1 c2 c3 c4 c5 c6 c7 c8 c9 c10 c11 c12:Value} {t:TypeId} (h:w.heap[q]? =some (.cells #[c0,c1,c2,c3,c4,c5,c6,c7,c8,c9,c10,c11,c12] t)):
    (w.cell? ⟨q,0,none⟩=some c0/\w.cell? ⟨q,1,none⟩=some c1/\w.cell? ⟨q,2,none⟩=some c2/\w.cell? ⟨q,3,none⟩=some c3)/\(w.cell? ⟨q,4,none⟩=some c4/\w.cell? ⟨q,5,none⟩=some c5/\w.cell? ⟨q,6,none⟩=some c6/\w.cell? ⟨q,7,none⟩=some c7)/\(w.cell? ⟨q,9,none⟩=some c9/\w.cell? ⟨q,10,none⟩=some c10/\w.cell? ⟨q,11,none⟩=some c11/\w.cell? ⟨q,12,none⟩=some c12):=
 ⟨⟨af h 0,af h 1,af h 2,af h 3⟩,⟨af h 4,af h 5,af h 6,af h 7⟩,af h 9,af h 10,af h 11,af h 12⟩
theorem Ih {a b c d:Bool} (h:d=(a && b && c)) (k:d=true):a=true:=by
 subst h
 simp only[Bool.and_eq_true]at k
 exact k.1.1
theorem ET {a b c e d:Bool} (h:d=(a && b && c && e)) (k:d=true):a=true:=by
 subst h
 simp only[Bool.and_eq_true]at k
 exact k.1.1.1
theorem Kj {w:World} {q L:Nat} {N:Nat} {xs:List (Tm N)} {va:Option Addr} {vc:Nat} {t:TypeId} (hL:xs.length=L) (h:w.heap[q]? =some (.cells #[.int .i64 4,.int .i64 0,.string ⟨#[]⟩,.slice va L vc] t)):w.heap[q]? =some (.cells #[.int .i64 4,.int .i64 0,.string ⟨#[]⟩,.slice va xs.length vc] t):=by rw[hL];exact h
def PL (pb:Nat) (name:ByteArray) (sv:Wd) (mv:Value):HLoc:=⟨pb,1,[.string name],[.int .i64 sv.1,.int .i64 sv.2,mv],81⟩
def MailAt (Mh:Nat->Prop) (ma:Option Addr) (vs:List Wd) (mc:Nat) (w:World):Prop:=
 (ma=none/\vs=[]/\mc=0)∨∃g mo cur,ma=some ⟨g,mo,none⟩/\¬Mh g/\w.heap[g]? =some (.cells cur 68 (0,0))/\vs.length<=mc/\mc<=maxLen/\mo+mc*2<=cur.size/\(cur.toList.drop mo).take (vs.length*2)=aB vs
def PHas (N:Nat) (ws:List Wd) (nm:List ByteArray) (room:Int) (us:List Wd) (ts:List (Tm N)):Prop:=
 StandL ws nm N us ts/\(us.flatMap (lX ws N)).Nodup/\(∀y∈ts,aP N y=0/\ai N y=true)/\(ts.map (sz N)).sum<=(ws.length:Int)/\(ws.length:Int)<=room/\0<=room/\room<=1000/\nm.Nodup
structure PrAt (base pb:Nat) (name:ByteArray) (room:Int) (N:Nat) (s:Tm N) (ms:List (Tm N)) (xs:List (Wd×Tm N)) (nk:Nat) (M:Nat->Prop) (w:World) (ws:List Wd) (nm:List ByteArray) (sv:Wd) (vs:List Wd) (ma:Option Addr) (mc:Nat) (Mh:Nat->Prop):Prop where
 heap:HpAt base (PL pb name sv (.slice ma vs.length mc)) room ws nm Mh w
 mail:MailAt Mh ma vs mc w
 has:PHas N ws nm room (sv::vs++xs.map (·.1)) (s::ms++xs.map (·.2))
 len:vs.length=ms.length
 names:nm.length<=nk
 inM:∀b,Mh b->M b
 mailM:∀a,ma=some a->M a.block
theorem HpAt.box {base:Nat} {hp:HLoc} {room:Int} {ws:List Wd} {nm:List ByteArray} {M:Nat->Prop} {w:World} (h:HpAt base hp room ws nm M w):∃tv lv mv,HB hp room tv lv mv w/\∃ta tc,tv=.slice ta ws.length tc:=by
 obtain⟨tv,lv,mv,h1,h2,_⟩:=h
 refine⟨tv,lv,mv,h1, ?_⟩
 rcases h2.2 with⟨e,e0⟩|⟨g,c,cur,e,_⟩
 ·exact⟨none,0,by rw[e,e0]⟩
 ·exact⟨_,c,e⟩
theorem PL.cells {pb:Nat} {name:ByteArray} {sv:Wd} {mv:Value} {room:Int} {tv lv mp:Value} {w:World} (h:HB (PL pb name sv mv) room tv lv mp w):
    w.cell? ⟨pb,0,none⟩=some (.string name)/\w.cell? ⟨pb,5,none⟩=some (.int .i64 sv.1)/\w.cell? ⟨pb,5+1,none⟩=some (.int .i64 sv.2)/\w.cell? ⟨pb,7,none⟩=some mv/\(∀j,w.frozen? ⟨pb,j,none⟩=false)/\pb<w.heap.size:=by
 have h2:w.heap[pb]? =some (.cells #[.string name,.int .i64 room,tv,lv,mp,.int .i64 sv.1,.int .i64 sv.2,mv] 81):=h.2
 refine⟨?_, ?_, ?_, ?_,fun j=> ?_,(Array.getElem?_eq_some_iff.1 h2).1⟩
 all_goals simp[World.cell?,World.frozen?,h2]
theorem DR (pb:Nat) (w:World) (L:Nat) (HU:Hid (∀w1,w1=w->Calls Tryz.prog 47 #[.pointer (some ⟨pb,1,none⟩)] w1 fun e w'=>e=.returned (.int .i64 L)/\w'=w1)):
    Calls Tryz.prog 14 #[.pointer (some ⟨pb,0,none⟩)] w fun e w'=>e=.returned (.int .i64 L)/\w'=w:=by
 go_enter Tryz.func14,Tryz.ntmps14
 go_wp2_with (go_at_call 47;refine(HU.out _ rfl).mono ?_;rintro e w1 ⟨rfl,rfl⟩)
 go_ret
 exact⟨rfl,rfl⟩
theorem EQ {base pb:Nat} {name:ByteArray} {room:Int} {N:Nat} {s:Tm N} {ms:List (Tm N)} {xs:List (Wd×Tm N)} {nk:Nat} {M:Nat->Prop} {w:World} {ws:List Wd} {nm:List ByteArray} {sv:Wd} {vs:List Wd} {ma:Option Addr} {mc:Nat} {Mh:Nat->Prop} (h:PrAt base pb name room N s ms xs nk M w ws nm sv vs ma mc Mh):
    Calls Tryz.prog 14 #[.pointer (some ⟨pb,0,none⟩)] w fun e w'=>e=.returned (.int .i64 (ws.length:Nat))/\w'=w:=by
 obtain⟨tv,lv,mv,h1,ta,tc,rfl⟩:=h.heap.box
 exact DR pb w ws.length fun w1 e=>by
  subst e
  exact EF (PL pb name sv (.slice ma vs.length mc)) room ta ws.length tc lv mv w1 h1
def jU (N:Nat) (x:Tm N) (w:World) (e:Ending) (w':World):Prop:=∃y:Tm N,e=.returned (val N y)/\Hid (Below w.heap.size w w'/\In w'.heap.size w' N y/\Off (fun q=>w.heap.size<=q) N y/\same N y N x=true)
theorem Du (pb N:Nat) (x:Tm (N+1)) (v:Wd) (w:World) (HG:Hid (∀w1,Below w.heap.size w w1->Calls Tryz.prog 69 #[.pointer (some ⟨pb,1,none⟩),.agg #[.int .i64 v.1,.int .i64 v.2]] w1 fun e w'=>∃y:Tm (N+1),e=.returned (.tuple #[.agg #[.int .i64 y.1.1,.int .i64 y.1.2.1,.string y.1.2.2,.slice y.2.1.1 y.2.2.length y.2.1.2],.int .i64 0])/\Hid (Below w1.heap.size w1 w'/\In w'.heap.size w' (N+1) y/\Off (fun q=>w1.heap.size<=q) (N+1) y/\same (N+1) y (N+1) x=true))):
    Calls Tryz.prog 48 #[.pointer (some ⟨pb,0,none⟩),.agg #[.int .i64 v.1,.int .i64 v.2]] w (jU (N+1) x w):=by
 go_enter Tryz.func48,Tryz.ntmps48
 go_wp2_with fail
 have HN:=hide (ny w (.cells #[.int .i64 v.1,.int .i64 v.2] 68) (.cells #[.int .i64 0,.int .i64 0,.string ⟨#[]⟩,.slice none 0 0] 25))
 have HNB:Hid (Below w.heap.size w ((w.alloc (.cells #[.int .i64 v.1,.int .i64 v.2] 68)).alloc (.cells #[.int .i64 0,.int .i64 0,.string ⟨#[]⟩,.slice none 0 0] 25))/\((w.alloc (.cells #[.int .i64 v.1,.int .i64 v.2] 68)).alloc (.cells #[.int .i64 0,.int .i64 0,.string ⟨#[]⟩,.slice none 0 0] 25)).heap.size=w.heap.size+1+1):=⟨by go_grown,by simp⟩
 generalize hW0:(w.alloc _).alloc _=W0
 rw[hW0]at HN HNB
 clear hW0
 have hz0:W0.heap.size=w.heap.size+1+1:=HNB.out.2
 have HK:Hid (∀w',Below W0.heap.size W0 w'->w'.cell? ⟨w.heap.size,0,none⟩=some (.int .i64 v.1)/\w'.cell? ⟨w.heap.size,1,none⟩=some (.int .i64 v.2)):=fun w' h=>by
  have h1:=(h.block w.heap.size (by omega)).trans HN.out.1
  exact⟨af h1 0,af h1 1⟩
 obtain⟨k0,k1⟩:=HK.out W0 (Below.refl _ _)
 have HD0:Hid (Below W0.heap.size W0 W0.drew):=(Below.refl _ _).drew
 have HD1:Hid (Below W0.heap.size W0 (W0.alloc (.cells #[.int .i64 0,.int .i64 0,.string ⟨#[]⟩,.slice none 0 0] 25)).drew):=(show Below _ _ _ by go_grown)
 have HNX:Hid ((W0.alloc (.cells #[.int .i64 0,.int .i64 0,.string ⟨#[]⟩,.slice none 0 0] 25)).drew.heap[W0.heap.size]? =some (.cells #[.int .i64 0,.int .i64 0,.string ⟨#[]⟩,.slice none 0 0] 25)/\(W0.alloc (.cells #[.int .i64 0,.int .i64 0,.string ⟨#[]⟩,.slice none 0 0] 25)).drew.heap.size=W0.heap.size+1):=⟨iC W0 _ rfl,by simp⟩
 clear hz0
 go_region_held3 (fun w'=>w'.cell? ⟨w.heap.size,0,none⟩=some (.int .i64 v.1)/\w'.cell? ⟨w.heap.size,1,none⟩=some (.int .i64 v.2)) (first|(go_keep;done)|with_reducible exact HK.out _ HD0.out|with_reducible exact HK.out _ HD1.out|exact HK.out _ HB1.out|exact HKA.out _|exact HKS.out _ _ _ _|exact HKT.out _ _ _ _ _)
  ((first
   | (go_at_call 69;refine(HG.out _ (HNB.out.1.trans (HD0.out.mono HNB.out.1.size))).mono ?_;rintro e w1 ⟨y,rfl,HY⟩;have HB1:=hide (HD0.out.trans (HY.out.1.mono HD0.out.size));have HKA:Hid (∀o:Obj,(w1.alloc o).cell? ⟨w.heap.size,0,none⟩=some (.int .i64 v.1)/\(w1.alloc o).cell? ⟨w.heap.size,1,none⟩=some (.int .i64 v.2)):=fun o=>HK.out _ (HB1.out.trans (aM.mono HB1.out.size));have HKT:Hid (∀(o:Obj) (a b c d:Value),(bG (w1.alloc o) w1.heap.size 0 a b c d).cell? ⟨w.heap.size,0,none⟩=some (.int .i64 v.1)/\(bG (w1.alloc o) w1.heap.size 0 a b c d).cell? ⟨w.heap.size,1,none⟩=some (.int .i64 v.2)):=fun o a b c d=>by have hs:=HB1.out.size;have hz:=HNB.out.2;exact⟨(aK (au (by omega) a b c d) 0).trans (HKA.out o).1,(aK (au (by omega) a b c d) 1).trans (HKA.out o).2⟩)
   | (go_at_call 69;refine(HG.out _ (HNB.out.1.trans (HD1.out.mono HNB.out.1.size))).mono ?_;rintro e w1 ⟨y,rfl,HY⟩;have HB1:=hide (HD1.out.trans (HY.out.1.mono HD1.out.size));have HX1:=hide ((HY.out.1.block _ (by have:=HNX.out.2;omega)).trans HNX.out.1);have hq0:w1.cell? ⟨W0.heap.size,0,none⟩=some (.int .i64 0):=af HX1.out 0;have hq1:w1.cell? ⟨W0.heap.size,1,none⟩=some (.int .i64 0):=af HX1.out 1;have hq2:w1.cell? ⟨W0.heap.size,2,none⟩=some (.string ⟨#[]⟩):=af HX1.out 2;have hq3:w1.cell? ⟨W0.heap.size,3,none⟩=some (.slice none 0 0):=af HX1.out 3;have hqf:=fun j=>bU HX1.out j;have HKS:Hid (∀a b c d:Value,(bG w1 W0.heap.size 0 a b c d).cell? ⟨w.heap.size,0,none⟩=some (.int .i64 v.1)/\(bG w1 W0.heap.size 0 a b c d).cell? ⟨w.heap.size,1,none⟩=some (.int .i64 v.2)):=fun a b c d=>⟨(aK (au (by have:=HNB.out.2;omega) a b c d) 0).trans (HK.out _ HB1.out).1,(aK (au (by have:=HNB.out.2;omega) a b c d) 1).trans (HK.out _ HB1.out).2⟩)))
 ·have hz:=HNB.out.2
  have HR1:Hid ((w1.alloc (.cells #[.int .i64 y.1.1,.int .i64 y.1.2.1,.string y.1.2.2,.slice y.2.1.1 y.2.2.length y.2.1.2] 25)).heap[w.heap.size+1]? =some (.cells #[.int .i64 0,.int .i64 0,.string ⟨#[]⟩,.slice none 0 0] 25)):=(aM.block _ (by have:=HB1.out.size;omega)).trans ((HB1.out.block _ (by omega)).trans HN.out.2)
  have HQ5:Hid ((w1.alloc (.cells #[.int .i64 y.1.1,.int .i64 y.1.2.1,.string y.1.2.2,.slice y.2.1.1 y.2.2.length y.2.1.2] 25)).heap[w1.heap.size]? =some (.cells #[.int .i64 y.1.1,.int .i64 y.1.2.1,.string y.1.2.2,.slice y.2.1.1 y.2.2.length y.2.1.2] 25)):=heap_alloc_new _ _
  have HF:Hid (Below w.heap.size w (w1.alloc (.cells #[.int .i64 y.1.1,.int .i64 y.1.2.1,.string y.1.2.2,.slice y.2.1.1 y.2.2.length y.2.1.2] 25))/\In (w1.alloc (.cells #[.int .i64 y.1.1,.int .i64 y.1.2.1,.string y.1.2.2,.slice y.2.1.1 y.2.2.length y.2.1.2] 25)).heap.size (w1.alloc (.cells #[.int .i64 y.1.1,.int .i64 y.1.2.1,.string y.1.2.2,.slice y.2.1.1 y.2.2.length y.2.1.2] 25)) (N+1) y/\Off (fun q=>w.heap.size+2<=q) (N+1) y):=⟨(HNB.out.1.trans (HB1.out.mono HNB.out.1.size)).trans (aM.mono (HNB.out.1.trans (HB1.out.mono HNB.out.1.size)).size),(HY.out.2.1.below aM).mono (by simp),HY.out.2.2.1.mono fun q (hq:W0.heap.size<=q)=>by omega⟩
  have HWW:Hid (∃w3,w3=(w1.alloc (.cells #[.int .i64 y.1.1,.int .i64 y.1.2.1,.string y.1.2.2,.slice y.2.1.1 y.2.2.length y.2.1.2] 25))):=⟨_,rfl⟩
  obtain⟨w3,hw3⟩:=HWW.out
  rw[<-hw3]at HR1 HQ5 HF ⊢
  clear hw3 HWW hz
  have r0:w3.cell? ⟨w.heap.size+1,0,none⟩=some (.int .i64 0):=af HR1.out 0
  have r1:w3.cell? ⟨w.heap.size+1,1,none⟩=some (.int .i64 0):=af HR1.out 1
  have r2:w3.cell? ⟨w.heap.size+1,2,none⟩=some (.string ⟨#[]⟩):=af HR1.out 2
  have r3:w3.cell? ⟨w.heap.size+1,3,none⟩=some (.slice none 0 0):=af HR1.out 3
  have rf:=fun j=>bU HR1.out j
  have p0:w3.cell? ⟨w1.heap.size,0,none⟩=some (.int .i64 y.1.1):=af HQ5.out 0
  have p1:w3.cell? ⟨w1.heap.size,1,none⟩=some (.int .i64 y.1.2.1):=af HQ5.out 1
  have p2:w3.cell? ⟨w1.heap.size,2,none⟩=some (.string y.1.2.2):=af HQ5.out 2
  have p3:w3.cell? ⟨w1.heap.size,3,none⟩=some (.slice y.2.1.1 y.2.2.length y.2.1.2):=af HQ5.out 3
  go_wp2_with fail
  refine bodyPost_ret (v:=.agg #[.int .i64 y.1.1,.int .i64 y.1.2.1,.string y.1.2.2,.slice y.2.1.1 y.2.2.length y.2.1.2]) (by simp[results,Tryz.results48,go_sem,r0,r1,r2,r3]) rfl ?_
  refine⟨y,rfl,bR HF.out.1 (by omega), ?_,HF.out.2.2.mono fun q hq=>by omega,HY.out.2.2.2⟩
  have e:=In.off (w':=bG w3 (w.heap.size+1) 0 (.int .i64 y.1.1) (.int .i64 y.1.2.1) (.string y.1.2.2) (.slice y.2.1.1 y.2.2.length y.2.1.2)) (fun b (hb:w.heap.size+2<=b)=>au (by omega) _ _ _ _) HF.out.2.2 HF.out.2.1
  rw[<-aF (w:=w3) (g:=w.heap.size+1) (o:=0) (.int .i64 y.1.1) (.int .i64 y.1.2.1) (.string y.1.2.2) (.slice y.2.1.1 y.2.2.length y.2.1.2)]at e
  exact e
 ·have hz:=HNB.out.2
  have hz1:=HNX.out.2
  have HR1:Hid ((bG w1 W0.heap.size 0 (.int .i64 y.1.1) (.int .i64 y.1.2.1) (.string y.1.2.2) (.slice y.2.1.1 y.2.2.length y.2.1.2)).heap[w.heap.size+1]? =some (.cells #[.int .i64 0,.int .i64 0,.string ⟨#[]⟩,.slice none 0 0] 25)):=(au (by omega) _ _ _ _).trans ((HB1.out.block _ (by omega)).trans HN.out.2)
  have HQ5:Hid ((bG w1 W0.heap.size 0 (.int .i64 y.1.1) (.int .i64 y.1.2.1) (.string y.1.2.2) (.slice y.2.1.1 y.2.2.length y.2.1.2)).heap[W0.heap.size]? =some (.cells #[.int .i64 y.1.1,.int .i64 y.1.2.1,.string y.1.2.2,.slice y.2.1.1 y.2.2.length y.2.1.2] 25)):=(by
   show _=_
   simp[bG,World.setCell,Array.getElem?_modify,HX1.out])
  have HF:Hid (Below w.heap.size w (bG w1 W0.heap.size 0 (.int .i64 y.1.1) (.int .i64 y.1.2.1) (.string y.1.2.2) (.slice y.2.1.1 y.2.2.length y.2.1.2))/\In (bG w1 W0.heap.size 0 (.int .i64 y.1.1) (.int .i64 y.1.2.1) (.string y.1.2.2) (.slice y.2.1.1 y.2.2.length y.2.1.2)).heap.size (bG w1 W0.heap.size 0 (.int .i64 y.1.1) (.int .i64 y.1.2.1) (.string y.1.2.2) (.slice y.2.1.1 y.2.2.length y.2.1.2)) (N+1) y/\Off (fun q=>w.heap.size+2<=q) (N+1) y):=by
   refine⟨bR (HNB.out.1.trans (HB1.out.mono HNB.out.1.size)) (by omega), ?_,HY.out.2.2.1.mono fun q hq=> ?_⟩
   ·rw[aF]
    exact In.off (fun b (hb:(W0.alloc (.cells #[.int .i64 0,.int .i64 0,.string ⟨#[]⟩,.slice none 0 0] 25)).drew.heap.size<=b)=>au (by omega) _ _ _ _) HY.out.2.2.1 HY.out.2.1
   ·have hq':(W0.alloc (.cells #[.int .i64 0,.int .i64 0,.string ⟨#[]⟩,.slice none 0 0] 25)).drew.heap.size<=q:=hq
    omega
  have HWW:Hid (∃w3,w3=(bG w1 W0.heap.size 0 (.int .i64 y.1.1) (.int .i64 y.1.2.1) (.string y.1.2.2) (.slice y.2.1.1 y.2.2.length y.2.1.2))):=⟨_,rfl⟩
  obtain⟨w3,hw3⟩:=HWW.out
  change Exit.then _ _ Exit.normal _ (bG w1 W0.heap.size 0 (.int .i64 y.1.1) (.int .i64 y.1.2.1) (.string y.1.2.2) (.slice y.2.1.1 y.2.2.length y.2.1.2))
  rw[<-hw3]at HR1 HQ5 HF ⊢
  clear hw3 HWW hz hz1
  have r0:w3.cell? ⟨w.heap.size+1,0,none⟩=some (.int .i64 0):=af HR1.out 0
  have r1:w3.cell? ⟨w.heap.size+1,1,none⟩=some (.int .i64 0):=af HR1.out 1
  have r2:w3.cell? ⟨w.heap.size+1,2,none⟩=some (.string ⟨#[]⟩):=af HR1.out 2
  have r3:w3.cell? ⟨w.heap.size+1,3,none⟩=some (.slice none 0 0):=af HR1.out 3
  have rf:=fun j=>bU HR1.out j
  have p0:w3.cell? ⟨W0.heap.size,0,none⟩=some (.int .i64 y.1.1):=af HQ5.out 0
  have p1:w3.cell? ⟨W0.heap.size,1,none⟩=some (.int .i64 y.1.2.1):=af HQ5.out 1
  have p2:w3.cell? ⟨W0.heap.size,2,none⟩=some (.string y.1.2.2):=af HQ5.out 2
  have p3:w3.cell? ⟨W0.heap.size,3,none⟩=some (.slice y.2.1.1 y.2.2.length y.2.1.2):=af HQ5.out 3
  go_wp2_with fail
  refine bodyPost_ret (v:=.agg #[.int .i64 y.1.1,.int .i64 y.1.2.1,.string y.1.2.2,.slice y.2.1.1 y.2.2.length y.2.1.2]) (by simp[results,Tryz.results48,go_sem,r0,r1,r2,r3]) rfl ?_
  refine⟨y,rfl,bR HF.out.1 (by omega), ?_,HF.out.2.2.mono fun q hq=>by omega,HY.out.2.2.2⟩
  have e:=In.off (w':=bG w3 (w.heap.size+1) 0 (.int .i64 y.1.1) (.int .i64 y.1.2.1) (.string y.1.2.2) (.slice y.2.1.1 y.2.2.length y.2.1.2)) (fun b (hb:w.heap.size+2<=b)=>au (by omega) _ _ _ _) HF.out.2.2 HF.out.2.1
  rw[<-aF (w:=w3) (g:=w.heap.size+1) (o:=0) (.int .i64 y.1.1) (.int .i64 y.1.2.1) (.string y.1.2.2) (.slice y.2.1.1 y.2.2.length y.2.1.2)]at e
  exact e
theorem lJ {n:Nat} {x:Tm n} (h:aP n x=0):ak ⟨n,x⟩:=ax.2 (aN.1 h).1
section
variable {base pb:Nat} {name:ByteArray} {room:Int} {N:Nat} {s:Tm (N+1)} {ms:List (Tm (N+1))} {xs:List (Wd×Tm (N+1))} {nk:Nat} {M:Nat->Prop} {w:World} {ws:List Wd} {nm:List ByteArray} {sv:Wd} {vs:List Wd} {ma:Option Addr} {mc:Nat} {Mh:Nat->Prop}
theorem PrAt.later (h:PrAt base pb name room (N+1) s ms xs nk M w ws nm sv vs ma mc Mh) {w1:World} (hb:Below w.heap.size w w1):PrAt base pb name room (N+1) s ms xs nk M w1 ws nm sv vs ma mc Mh:=by
 refine⟨(h.heap.later hb).mono fun b hb=>hb.1, ?_,h.has,h.len,h.names,h.inM,h.mailM⟩
 rcases h.mail with e|⟨g,mo,cur,e1,e2,e3,e4⟩
 ·exact Or.inl e
 ·exact Or.inr ⟨g,mo,cur,e1,e2,(hb.block g (Array.getElem?_eq_some_iff.1 e3).1).trans e3,e4⟩
theorem PrAt.read (h:PrAt base pb name room (N+1) s ms xs nk M w ws nm sv vs ma mc Mh) (hnk:nk<=50000) {i:Nat} {v:Wd} {x:Tm (N+1)} (hv:(sv::vs++xs.map (·.1))[i]? =some v) (hx:(s::ms++xs.map (·.2))[i]? =some x):
    Calls Tryz.prog 48 #[.pointer (some ⟨pb,0,none⟩),.agg #[.int .i64 v.1,.int .i64 v.2]] w (jU (N+1) x w):=by
 obtain⟨k1,k2,k3,k4,k5,k6,k7,k8⟩:=h.has
 have hc:=k3 x (List.mem_of_getElem? hx)
 have hn:=h.names
 exact Du pb N x v w fun w1 hb=>Fb (N+1) x v base (PL pb name sv (.slice ma vs.length mc)) room ws nm Mh w1 ((h.later hb).heap) (k1.2 i v x hv hx) (lJ hc.1) hc.2 (by omega) (by omega)
end
theorem A7 (pb N:Nat) (x:Tm (N+1)) (v:Wd) (w:World) (hpw:pb<w.heap.size) (c5:w.cell? ⟨pb,5,none⟩=some (.int .i64 v.1)) (c6:w.cell? ⟨pb,5+1,none⟩=some (.int .i64 v.2))
    (HR:Hid (∀w1,Below w.heap.size w w1->Calls Tryz.prog 48 #[.pointer (some ⟨pb,0,none⟩),.agg #[.int .i64 v.1,.int .i64 v.2]] w1 (jU (N+1) x w1))):
    Calls Tryz.prog 18 #[.pointer (some ⟨pb,0,none⟩)] w (jU (N+1) x w):=by
 go_enter Tryz.func18,Tryz.ntmps18
 go_wp2_with fail
 refine(HR.out _ aM).mono ?_
 rintro e w1 ⟨y,rfl,HY⟩
 rw[show val (N+1) y=.agg #[.int .i64 y.1.1,.int .i64 y.1.2.1,.string y.1.2.2,.slice y.2.1.1 y.2.2.length y.2.1.2]from rfl]
 have HX1:=hide (tu w _ _ _ _ _ HY.out.1)
 have HB1:Hid (Below w.heap.size w w1):=aM.trans (HY.out.1.mono (by simp))
 have r0:w1.cell? ⟨w.heap.size,0,none⟩=some (.int .i64 0):=af HX1.out 0
 have r1:w1.cell? ⟨w.heap.size,1,none⟩=some (.int .i64 0):=af HX1.out 1
 have r2:w1.cell? ⟨w.heap.size,2,none⟩=some (.string ⟨#[]⟩):=af HX1.out 2
 have r3:w1.cell? ⟨w.heap.size,3,none⟩=some (.slice none 0 0):=af HX1.out 3
 have rf:=fun j=>bU HX1.out j
 clear c5 c6
 go_wp2_with fail
 refine bodyPost_ret (v:=.agg #[.int .i64 y.1.1,.int .i64 y.1.2.1,.string y.1.2.2,.slice y.2.1.1 y.2.2.length y.2.1.2]) (by simp[results,Tryz.results18,go_sem,r0,r1,r2,r3]) rfl ?_
 have ho:Off (fun q=>w.heap.size+1<=q) (N+1) y:=HY.out.2.2.1.mono fun q hq=>by simpa using hq
 refine⟨y,rfl,bR HB1.out (Nat.le_refl _), ?_,ho.mono fun q hq=>by omega,HY.out.2.2.2⟩
 have e:=In.off (w':=bG w1 w.heap.size 0 (.int .i64 y.1.1) (.int .i64 y.1.2.1) (.string y.1.2.2) (.slice y.2.1.1 y.2.2.length y.2.1.2)) (fun b (hb:w.heap.size+1<=b)=>au (by omega) _ _ _ _) ho HY.out.2.1
 rw[<-aF (w:=w1) (g:=w.heap.size) (o:=0) (.int .i64 y.1.1) (.int .i64 y.1.2.1) (.string y.1.2.2) (.slice y.2.1.1 y.2.2.length y.2.1.2)]at e
 exact e
theorem MailAt.word {Mh:Nat->Prop} {ma:Option Addr} {vs:List Wd} {mc:Nat} {w:World} (h:MailAt Mh ma vs mc w) {i:Nat} {v:Wd} (hv:vs[i]? =some v):∃g mo,ma=some ⟨g,mo,none⟩/\g<w.heap.size/\w.cell? ⟨g,mo+i*2,none⟩=some (.int .i64 v.1)/\w.cell? ⟨g,mo+i*2+1,none⟩=some (.int .i64 v.2):=by
 rcases h with⟨_,e,_⟩|⟨g,mo,cur,e1,_,e3,e4,_,e6,e7⟩
 ·rw[e]at hv;simp at hv
 ·have hil:=(List.getElem?_eq_some_iff.1 hv).1
  have hat:∀(l:List Wd) (i:Nat) (v:Wd),l[i]? =some v->(aB l)[i*2]? =some (.int .i64 v.1)/\(aB l)[i*2+1]? =some (.int .i64 v.2):=by
   intro l
   induction l with
   | nil=>intro i v h;simp at h
   | cons a l ih=>
    intro i v h
    cases i with
    | zero=>simp at h;subst h;simp[aB,wd2]
    | succ i=>
     have:=ih i v (by simpa using h)
     simp only[aB,List.flatMap_cons,wd2]at this ⊢
     rw[show (i+1)*2=i*2+2 by omega,show i*2+2+1=(i*2+1)+2 by omega]
     simpa using this
  have hk:∀k,k<vs.length*2->w.cell? ⟨g,mo+k,none⟩=(aB vs)[k]? :=fun k hk=>by
   rw[<-e7,List.getElem?_take,if_pos hk,List.getElem?_drop,Array.getElem?_toList]
   simp[World.cell?,e3]
  refine⟨g,mo,e1,(Array.getElem?_eq_some_iff.1 e3).1, ?_, ?_⟩
  ·rw[hk (i*2) (by omega)];exact(hat vs i v hv).1
  ·rw[show mo+i*2+1=mo+(i*2+1) by omega,hk (i*2+1) (by omega)];exact(hat vs i v hv).2
def BH (N:Nat) (ms:List (Tm N)) (w:World) (e:Ending) (w':World):Prop:=∃(ys:List (Tm N)) (L:Nat) (a:Option Addr) (c:Nat),e=.returned (.slice a L c)/\Hid (ys.length=L/\GrowT N 0 w.heap.size ys (.slice a L c) w w'/\aj (fun a b=>same N a N b) ys ms=true)
theorem Eu (pb N:Nat) (ms:List (Tm (N+1))) (vs:List Wd) (L:Nat) (ma:Option Addr) (mc:Nat) (w:World) (hL:Hid (vs.length=L)) (hLm:Hid (ms.length=L)) (hL20:L<=1000) (_hpw:pb<w.heap.size) (c7:w.cell? ⟨pb,7,none⟩=some (.slice ma L mc))
    (HW:Hid (∀w1,Below w.heap.size w w1->∀(i:Nat) (v:Wd),vs[i]? =some v->∃g mo,ma=some ⟨g,mo,none⟩/\g<w.heap.size/\w1.cell? ⟨g,mo+i*2,none⟩=some (.int .i64 v.1)/\w1.cell? ⟨g,mo+i*2+1,none⟩=some (.int .i64 v.2)))
    (HR:Hid (∀w1,Below w.heap.size w w1->∀(i:Nat) (v:Wd) (x:Tm (N+1)),vs[i]? =some v->ms[i]? =some x->Calls Tryz.prog 48 #[.pointer (some ⟨pb,0,none⟩),.agg #[.int .i64 v.1,.int .i64 v.2]] w1 (jU (N+1) x w1))):
    Calls Tryz.prog 20 #[.pointer (some ⟨pb,0,none⟩)] w (BH (N+1) ms w):=by
 obtain⟨it,hit,htz0,htz1,htz2⟩:=info_parts bP
 have HT:=hide (⟨hit,htz0,htz1,htz2⟩:_/\_/\_/\_)
 clear hit htz0 htz1 htz2
 go_enter Tryz.func20,Tryz.ntmps20
 go_wp2_with fail
 go_loopw [3,11] (fun v i wr=>∃(k:Nat) (a:Option Addr) (c:Nat) (ys:List (Tm (N+1))),k<=L/\i=.int .i64 k/\v=.slice a k c/\Hid (ys.length=k/\GrowT (N+1) 0 w.heap.size ys (.slice a k c) w wr/\aj (fun a b=>same (N+1) a (N+1) b) ys (ms.take k)=true)) (fun _ i _=>L-(intOf i).toNat)
 case atStart=>exact⟨0,none,0,[],by omega,rfl,rfl,rfl,Grow.nil _,by simp[aj]⟩
 case round=>
  obtain⟨k,a,c,ys,hk,rfl,rfl,HG⟩:=hrel
  have HBW:Hid (Below w.heap.size w wr):=HG.out.2.1.1
  by_cases hlt:k<L
  rotate_left
  ·obtain rfl:k=L:=by omega
   go_wp2_with fail
   go_ret
   refine⟨ys,k,a,c,rfl,HG.out.1,HG.out.2.1, ?_⟩
   have h:=HG.out.2.2
   rw[List.take_of_length_le (by rw[hLm.out];omega)]at h
   exact h
  ·obtain⟨v,hv⟩:∃v,vs[k]? =some v:=⟨vs[k]'(by rw[hL.out];exact hlt),List.getElem?_eq_getElem _⟩
   obtain⟨x,hx⟩:∃x,ms[k]? =some x:=⟨ms[k]'(by rw[hLm.out];exact hlt),List.getElem?_eq_getElem _⟩
   have HX:=hide hx
   have HRk:Hid (∀w1,Below w.heap.size w w1->Calls Tryz.prog 48 #[.pointer (some ⟨pb,0,none⟩),.agg #[.int .i64 v.1,.int .i64 v.2]] w1 (jU (N+1) x w1)):=fun w1 hb=>HR.out w1 hb k v x hv hx
   obtain⟨g,mo,rfl,hg,d0,d1⟩:=HW.out wr HBW.out k v hv
   clear hv hx
   have hk0:(0:Int)<=(k:Int):=by omega
   have hkL:(k:Int)<(L:Int):=by omega
   have hgw:g<wr.heap.size:=by have:=HBW.out.size;omega
   go_wp2_with fail
   refine(HRk.out _ (HBW.out.trans (aM.mono HBW.out.size))).mono ?_
   rintro e w2 ⟨y,rfl,HY⟩
   rw[show val (N+1) y=.agg #[.int .i64 y.1.1,.int .i64 y.1.2.1,.string y.1.2.2,.slice y.2.1.1 y.2.2.length y.2.1.2]from rfl]
   have HB2:Hid (Below wr.heap.size wr w2):=aM.trans (HY.out.1.mono (by simp))
   have HBS:Hid (Below wr.heap.size wr (w2.alloc (.cells #[.int .i64 y.1.1,.int .i64 y.1.2.1,.string y.1.2.2,.slice y.2.1.1 y.2.2.length y.2.1.2] 25))/\(w2.alloc (.cells #[.int .i64 y.1.1,.int .i64 y.1.2.1,.string y.1.2.2,.slice y.2.1.1 y.2.2.length y.2.1.2] 25)).heap.size=w2.heap.size+1/\(w2.alloc (.cells #[.int .i64 y.1.1,.int .i64 y.1.2.1,.string y.1.2.2,.slice y.2.1.1 y.2.2.length y.2.1.2] 25)).heap[w2.heap.size]? =some (.cells #[.int .i64 y.1.1,.int .i64 y.1.2.1,.string y.1.2.2,.slice y.2.1.1 y.2.2.length y.2.1.2] 25)/\In (w2.alloc (.cells #[.int .i64 y.1.1,.int .i64 y.1.2.1,.string y.1.2.2,.slice y.2.1.1 y.2.2.length y.2.1.2] 25)).heap.size (w2.alloc (.cells #[.int .i64 y.1.1,.int .i64 y.1.2.1,.string y.1.2.2,.slice y.2.1.1 y.2.2.length y.2.1.2] 25)) (N+1) y/\Off (fun b=>b<0∨wr.heap.size<=b) (N+1) y):=by
    have h:Below w2.heap.size w2 (w2.alloc (.cells #[.int .i64 y.1.1,.int .i64 y.1.2.1,.string y.1.2.2,.slice y.2.1.1 y.2.2.length y.2.1.2] 25)):=aM
    refine⟨HB2.out.trans (h.mono HB2.out.size),by simp,heap_alloc_new _ _,(HY.out.2.1.below h).mono h.size,HY.out.2.2.1.mono fun b hb=>Or.inr ?_⟩
    have:wr.heap.size+1<=b:=by simpa using hb
    omega
   have HAP:=fun(g4 c4:Nat) (w4:World) hown hgrow hat=>hide (HG.out.2.1.appAt (W:=(w2.alloc (.cells #[.int .i64 y.1.1,.int .i64 y.1.2.1,.string y.1.2.2,.slice y.2.1.1 y.2.2.length y.2.1.2] 25))) (w4:=w4) (g:=g4) (c:=c4) HG.out.1 (Nat.zero_le _) HBW.out.size HBS.out.1 y HBS.out.2.2.2.1 HBS.out.2.2.2.2 hown hgrow hat)
   have HOW:=hide (HG.out.2.1.ownAt HG.out.1 HBS.out.1)
   have hsz:w.heap.size<=w2.heap.size:=by have:=HBW.out.size;have:=HB2.out.size;omega
   clear d0 d1
   go_wp2_with (at_builtin;refine wpList_append_lies _ rfl _ _ 23 rfl w.heap.size 25 it _ 4 56 Tryz.underlying23 HT.out.1 HT.out.2.1 HT.out.2.2.1 HT.out.2.2.2 rfl (by decide) (.slice a k c) k (ys.flatMap (fw (N+1))) (by simp[Act.eval]) HOW.out ⟨w2.heap.size,0,none⟩ 1 1 (fw (N+1) y) (by simp[Act.eval]) rfl (World.news_of_block (cs:= #[.int .i64 y.1.1,.int .i64 y.1.2.1,.string y.1.2.2,.slice y.2.1.1 y.2.2.length y.2.1.2]) (t:=25) (fr:=(0,0)) HBS.out.2.2.1) (gZ _ _) (by decide) (by unfold maxLen;omega) (by omega) (by have:=HBS.out.2.1;omega) (w2.heap.size+1) HBS.out.2.1 ?_;intro g4 c4 w4 hown4 hgrow4 hat4 hlt4;have HS4:=HAP g4 c4 w4 hown4 hgrow4 (by rw[HBS.out.2.1];exact hat4);clear hown4 hgrow4 hat4 hlt4 HAP HOW)
   go_roundw
   case rel=>
    refine⟨k+1,some ⟨g4,0,none⟩,c4,ys++ [y],by omega,by go_num,rfl,by rw[List.length_append,HG.out.1];rfl,HS4.out, ?_⟩
    rw[List.take_add_one,HX.out]
    exact eY _ _ _ _ _ HG.out.2.2 HY.out.2.2.2
   case measure=>simp[intOf];omega
section
variable {base pb:Nat} {name:ByteArray} {room:Int} {N:Nat} {s:Tm (N+1)} {ms:List (Tm (N+1))} {xs:List (Wd×Tm (N+1))} {nk:Nat} {M:Nat->Prop} {w:World} {ws:List Wd} {nm:List ByteArray} {sv:Wd} {vs:List Wd} {ma:Option Addr} {mc:Nat} {Mh:Nat->Prop}
theorem PrAt.state (h:PrAt base pb name room (N+1) s ms xs nk M w ws nm sv vs ma mc Mh) (hnk:nk<=50000):Calls Tryz.prog 18 #[.pointer (some ⟨pb,0,none⟩)] w (jU (N+1) s w):=by
 obtain⟨tv,lv,mv,h1,_⟩:=h.heap.box
 obtain⟨_,c5,c6,_,_,hpw⟩:=PL.cells h1
 exact A7 pb N s sv w hpw c5 c6 fun w1 hb=>(h.later hb).read hnk (i:=0) (by simp) (by simp)
theorem PrAt.mails (h:PrAt base pb name room (N+1) s ms xs nk M w ws nm sv vs ma mc Mh) (hnk:nk<=50000) (h20:ms.length<=1000):Calls Tryz.prog 20 #[.pointer (some ⟨pb,0,none⟩)] w (BH (N+1) ms w):=by
 obtain⟨tv,lv,mv,h1,_⟩:=h.heap.box
 obtain⟨_,_,_,c7,_,hpw⟩:=PL.cells h1
 have hl:=h.len
 refine Eu pb N ms vs vs.length ma mc w rfl hl.symm (by omega) hpw c7 (fun w1 hb i v hv=> ?_) (fun w1 hb i v x hv hx=> ?_)
 ·obtain⟨g,mo,e1,e2,e3,e4⟩:=h.mail.word hv
  exact⟨g,mo,e1,e2,(ag hb _ _ e2).trans e3,(ag hb _ _ e2).trans e4⟩
 ·have hil:=(List.getElem?_eq_some_iff.1 hv).1
  exact(h.later hb).read hnk (i:=i+1) (by rw[List.cons_append,List.getElem?_cons_succ,List.getElem?_append_left hil];exact hv) (by rw[List.cons_append,List.getElem?_cons_succ,List.getElem?_append_left (by omega)];exact hx)
end
theorem tN {base:Nat} {v:Value} {n m xc:Nat} {xs:List Value} {ps:List Wd} {xa:Option Addr} {w:World} (ty:TypeId) (hown:w.ownsRow base 68 2 v n xs) (hs:dG w ps xa) (hm:ps.length=m) (h63:n+m<=200000) (hbase:base<=w.heap.size):
    ∃a' c' w',(Builtin.append_ #[72,72] ty #[v,.slice xa m xc]).run Tryz.prog w=.ok (.slice a' (n+m) c') w'/\w'.ownsRow base 68 2 (.slice a' (n+m) c') (n+m) (xs++aB ps)/\w.grownBy w' v.ownBlock/\((Value.slice a' (n+m) c').ownBlock=v.ownBlock∨(Value.slice a' (n+m) c').ownBlock=some w.heap.size):=by
 obtain⟨it,hit,htz0,htz1,htz2⟩:=info_parts jo
 have form:∀{w':World} {v':Value} {k:Nat} {ys:List Value},w'.ownsRow base 68 2 v' k ys->∃a c,v'=.slice a k c:=fun h=>by
  rcases h.2 with⟨rfl,rfl⟩|⟨g,cap,cur,rfl,_⟩
  ·exact⟨none,0,rfl⟩
  ·exact⟨_,cap,rfl⟩
 rcases hs with rfl|⟨ad,rfl,hc⟩
 ·obtain rfl:m=0:=hm.symm
  obtain⟨b,cap,hv,hle⟩:∃b cap,v=.slice b n cap/\n<=cap:=by
   rcases hown.2 with⟨rfl,rfl⟩|⟨g,cap,cur,rfl,_,_,h,_⟩
   ·exact⟨none,0,rfl,Nat.le_refl _⟩
   ·exact⟨_,cap,rfl,h⟩
  subst hv
  exact⟨b,cap,w,kD w _ _ ty _ _ it Tryz.underlying72 Tryz.underlying72 hit b xa n cap xc hle,by simpa [aB]using hown,World.grownBy.refl _ _,Or.inl rfl⟩
 ·obtain⟨v',w',h1,h2,h3,_,h5⟩:=run_append_own_at (P:=Tryz.prog) w base 72 ty 68 it _ 2 16 Tryz.underlying72 hit htz0 htz1 htz2 rfl (by decide) _ n xs hown ad m xc (aB ps) (by rw[bf,hm]) hc (mJ _) (by unfold maxLen;omega) (by omega) hbase
  obtain⟨a',c',rfl⟩:=form h2
  exact⟨a',c',w',h1,h2,h3,h5⟩
theorem rO {w:World} {ops:Array Oper} {o:Oper} {a:Act} {K:Act->World->Prop} {Q:Exit->Act->World->Prop} {E:Prop} (hgd:o.guard=none) (s x:Operand) (ho:o.op=.call {callee:=.builtin .append,args:= #[s,x],argTypes:= #[72,72]})
    {base:Nat} {v:Value} {n m xc:Nat} {xs:List Value} {ps:List Wd} {xa:Option Addr} (hs:a.eval s=v) (hx:a.eval x=.slice xa m xc) (hown:w.ownsRow base 68 2 v n xs) (hw:dG w ps xa) (hm:ps.length=m) (h63:n+m<=200000) (hbase:base<=w.heap.size)
    (hK:∀a' c' w',w'.ownsRow base 68 2 (.slice a' (n+m) c') (n+m) (xs++aB ps)->w.grownBy w' v.ownBlock->((Value.slice a' (n+m) c').ownBlock=v.ownBlock∨(Value.slice a' (n+m) c').ownBlock=some w.heap.size)->K (a.put o.dst (.slice a' (n+m) c')) w'):
    if Region.wanted o (yielded ops a.tmps)=true then Oper.wp Tryz.prog o a w K Q else E:=by
 have hwt:Region.wanted o (yielded ops a.tmps)=true:=by simp[Region.wanted,hgd]
 rw[if_pos hwt]
 obtain⟨a',c',w',hr,h2,h3,h5⟩:=tN (xc:=xc) o.type hown hw hm h63 hbase
 unfold Oper.wp execOp
 simp only[ho,resolve,invoke,builtin,Sem.run_bind,Sem.run_pure,Result.andThen_ok,List.map_toArray,List.map_cons,List.map_nil,hs,hx,hr]
 exact hK _ _ _ h2 h3 h5
theorem HpAt.turn {base pb:Nat} {name:ByteArray} {sv sv':Wd} {mv mv':Value} {room:Int} {ws:List Wd} {nm:List ByteArray} {M:Nat->Prop} {w w':World} (h:HpAt base (PL pb name sv mv) room ws nm M w) (k:Keep (fun b=>b=pb) w w')
    (hc:∀tv lv mp:Value,w.heap[pb]? =some (.cells #[.string name,.int .i64 room,tv,lv,mp,.int .i64 sv.1,.int .i64 sv.2,mv] 81)->w'.heap[pb]? =some (.cells #[.string name,.int .i64 room,tv,lv,mp,.int .i64 sv'.1,.int .i64 sv'.2,mv'] 81)):HpAt base (PL pb name sv' mv') room ws nm M w':=by
 obtain⟨tv,lv,mp,h1,h2,h3,h4,h5,h6,h7⟩:=h
 refine⟨tv,lv,mp,⟨⟨rfl,Or.inr rfl⟩,hc tv lv mp h1.2⟩,cB h2 k (fun b e e'=> ?_),h3.kept k (fun b e e'=> ?_) (fun b e e'=> ?_),h4,h5,h6,h7⟩
 ·subst e'
  exact ko h2 h1 (by decide) e
 ·subst e'
  exact ko h3.1 h1 (by decide) e
 ·subst e'
  exact qH h3 h1 e
theorem MailAt.words {Mh:Nat->Prop} {ma:Option Addr} {vs:List Wd} {mc:Nat} {w:World} (h:MailAt Mh ma vs mc w):dG w vs ma:=by
 rcases h with⟨_,e,_⟩|⟨g,mo,cur,e1,_,e3,e4,_,e6,e7⟩
 ·exact Or.inl e
 ·refine Or.inr ⟨⟨g,mo,none⟩,e1,fun j u hj=> ?_⟩
  have hl:=(List.getElem?_eq_some_iff.1 hj).1
  have hj':=hj
  rw[<-e7,List.getElem?_take]at hj'
  split at hj'
  ·rw[List.getElem?_drop,Array.getElem?_toList]at hj'
   have e:(⟨g,mo,none⟩:Addr).add j=⟨g,mo+j,none⟩:=by unfold Addr.add;split<;>simp[*]
   rw[e]
   simp[World.cell?,e3,hj']
  ·cases hj'
theorem PHas.tidied {N:Nat} {ws:List Wd} {nm:List ByteArray} {room:Int} {us:List Wd} {ts:List (Tm N)} (h:PHas N ws nm room us ts):PHas N (iH ws N us).2.1 nm room (iH ws N us).1 ts/\((iH ws N us).2.1.length:Int)=(ts.map (sz N)).sum/\(iH ws N us).1.length=us.length:=by
 obtain⟨k1,k2,k3,k4,k5,k6,k7,k8⟩:=h
 obtain⟨e1,e2,e3⟩:=zX k8 k1 k2
 have hr:∀y∈ts,ak ⟨N,y⟩:=fun y hy=>lJ (k3 y hy).1
 have hst:=kY (fun x ws nm hx=>fG N x ws nm hx) ts [] nm hr
 have hsum:=yz N ts [] nm
 have hpl:=qZ (fun x ws nm hx=>vw N x ws nm hx) ts [] nm hr
 have hln:=fu (az N) ts [] nm
 rw[e3]at hst
 rw[e1,e2]
 simp only[List.length_nil]at hsum
 refine⟨⟨⟨hln,fun i v y hv hy=> ?_⟩,hpl.1,k3,by omega,by omega,k6,k7,k8⟩,by omega,by rw[hln,k1.1]⟩
 obtain⟨u,hu,hs⟩:=hst i y hy
 rw[hv]at hu
 injection hu with hu
 rw[hu]
 exact hs
theorem jF (w:World) {g q:Nat} (h:g≠q) (o:Nat) (v:Value) (j:Nat):(w.setCell ⟨q,o,none⟩ v).cell? ⟨g,j,none⟩=w.cell? ⟨g,j,none⟩:=by
 refine aK ?_ j
 have h':¬q=g:=fun e=>h e.symm
 simp[World.setCell,Array.getElem?_modify,h']
def rV (g L:Nat):Option Addr:=if L=0 then some ⟨g,0,none⟩else some ⟨g,2,none⟩
def xx (w:World) (pb:Nat) (sv:Wd) (mv:Value):World:=((w.setCell ⟨pb,5,none⟩ (.int .i64 sv.1)).setCell ⟨pb,5+1,none⟩ (.int .i64 sv.2)).setCell ⟨pb,7,none⟩ mv
theorem DL (pb:Nat) (sv:Wd) (vs:List Wd) (L:Nat) (ma:Option Addr) (mc:Nat) (w:World) (Fin:Nat->Wd->World->World->Prop) (hL:Hid (vs.length=L)) (hL2:L<=1000) (HC7:Hid (∀w1,Below w.heap.size w w1->w1.cell? ⟨pb,5,none⟩=some (.int .i64 sv.1)/\w1.cell? ⟨pb,5+1,none⟩=some (.int .i64 sv.2)/\w1.cell? ⟨pb,7,none⟩=some (.slice ma L mc)))
    (HWA:Hid (∀w1,Below w.heap.size w w1->dG w1 vs ma))
    (HCO:Hid (∀w1,Below w.heap.size w w1->∀(a:Option Addr) (c:Nat),w1.ownsRow w.heap.size 68 2 (.slice a (1+L) c) (1+L) (aB (sv::vs))->Calls Tryz.prog 46 #[.pointer (some ⟨pb,1,none⟩),.slice a (1+L) c] w1 fun e w'=>∃(g:Nat) (sv':Wd),e=.returned (.tuple #[.slice (some ⟨g,0,none⟩) (1+L) (1+L),.int .i64 0])/\Hid ((w'.cell? ⟨g,0,none⟩=some (.int .i64 sv'.1)/\w'.cell? ⟨g,1,none⟩=some (.int .i64 sv'.2))/\g≠pb/\(∃v5 v6 v7,w'.cell? ⟨pb,5,none⟩=some v5/\w'.cell? ⟨pb,5+1,none⟩=some v6/\w'.cell? ⟨pb,7,none⟩=some v7)/\(∀j,w'.frozen? ⟨pb,j,none⟩=false)/\Fin g sv' w1 w'))):
    Calls Tryz.prog 13 #[.pointer (some ⟨pb,0,none⟩)] w fun e w'=>e=.returned (.tuple #[])/\∃(g:Nat) (sv':Wd) (w1 w2:World),w'=(xx w2 pb sv' (.slice (rV g L) L L)).drew/\Hid (Below w.heap.size w w1/\Fin g sv' w1 w2):=by
 obtain⟨c5,c6,c7⟩:=HC7.out w (Below.refl _ _)
 have HD0:Hid (Below w.heap.size w w.drew):=(Below.refl _ _).drew
 have HD1:Hid (Below w.heap.size w (w.alloc (.cells #[.int .i64 sv.1,.int .i64 sv.2] 68)).drew/\(w.alloc (.cells #[.int .i64 sv.1,.int .i64 sv.2] 68)).drew.ownsRow w.heap.size 68 2 (.slice (some ⟨w.heap.size,0,none⟩) 1 1) 1 (wd2 sv)):=by
  refine⟨by go_grown,rfl,Or.inr ⟨w.heap.size,1, #[.int .i64 sv.1,.int .i64 sv.2],rfl,Nat.le_refl _,iC w _ rfl,Nat.le_refl _,by unfold maxLen;omega,rfl,rfl⟩⟩
 go_enter Tryz.func13,Tryz.ntmps13
 go_wp2_with fail
 go_region_held3 (fun w'=>w'.cell? ⟨pb,5,none⟩=some (.int .i64 sv.1)/\w'.cell? ⟨pb,5+1,none⟩=some (.int .i64 sv.2)/\w'.cell? ⟨pb,7,none⟩=some (.slice ma L mc)) (first|(go_keep;done)|with_reducible exact HC7.out _ HD0.out|with_reducible exact HC7.out _ HD1.out.1|exact HC7.out _ HB2.out)
  ((refine rO rfl _ _ rfl (base:=w.heap.size) (v:=.slice (some ⟨w.heap.size,0,none⟩) 1 1) (n:=1) (m:=L) (xc:=mc) (xs:=wd2 sv) (ps:=vs) (xa:=ma) (by simp[Act.eval]) (by simp[Act.eval]) HD1.out.2 (HWA.out _ HD1.out.1) hL.out (by omega) (by have:=HD1.out.1.size;exact this) ?_;intro a2 c2 w2 hown2 hgrow2 hat2;have HB2:Hid (Below w.heap.size w w2):=(HD1.out.1.trans ⟨hgrow2.os,hgrow2.tape,hgrow2.output,hgrow2.size,fun b hb=>hgrow2.block b (Nat.lt_of_lt_of_le hb HD1.out.1.size) (fun e=>by simp[Value.ownBlock]at e;omega)⟩);have HOW:=hide (show w2.ownsRow w.heap.size 68 2 (.slice a2 (1+L) c2) (1+L) (aB (sv::vs))from hown2);clear hown2 hgrow2 hat2))
 have HC2:=hide (HCO.out w2 HB2.out a2 c2 HOW.out)
 clear c5 c6 c7
 go_wp2_with fail
 refine HC2.out.mono ?_
 rintro e w3 ⟨g,sv',rfl,H3⟩
 obtain⟨⟨g0,g1⟩,hgp,⟨v5,v6,v7,d5,d6,d7⟩,hf,HFin⟩:=H3.out
 replace HFin:=hide HFin
 have hl0:(0:Int)<1+(L:Int):=by omega
 have hl1:(1:Int)<=1+(L:Int):=by omega
 have hgp':pb≠g:=fun e=>hgp e.symm
 have HKS:Hid (∀a b:Value,((w3.setCell ⟨pb,5,none⟩ a).setCell ⟨pb,5+1,none⟩ b).cell? ⟨g,0,none⟩=some (.int .i64 sv'.1)/\((w3.setCell ⟨pb,5,none⟩ a).setCell ⟨pb,5+1,none⟩ b).cell? ⟨g,1,none⟩=some (.int .i64 sv'.2)):=fun a b=>by
  have hk:∀j,((w3.setCell ⟨pb,5,none⟩ a).setCell ⟨pb,5+1,none⟩ b).cell? ⟨g,j,none⟩=w3.cell? ⟨g,j,none⟩:=fun j=>(jF _ hgp _ _ j).trans (jF _ hgp _ _ j)
  exact⟨(hk _).trans g0,(hk _).trans g1⟩
 have HKT:Hid (∀a b c:Value,(((w3.setCell ⟨pb,5,none⟩ a).setCell ⟨pb,5+1,none⟩ b).setCell ⟨pb,7,none⟩ c).cell? ⟨g,0,none⟩=some (.int .i64 sv'.1)/\(((w3.setCell ⟨pb,5,none⟩ a).setCell ⟨pb,5+1,none⟩ b).setCell ⟨pb,7,none⟩ c).cell? ⟨g,1,none⟩=some (.int .i64 sv'.2)):=fun a b c=>by
  have hk:∀j,(((w3.setCell ⟨pb,5,none⟩ a).setCell ⟨pb,5+1,none⟩ b).setCell ⟨pb,7,none⟩ c).cell? ⟨g,j,none⟩=w3.cell? ⟨g,j,none⟩:=fun j=>(jF _ hgp _ _ j).trans ((jF _ hgp _ _ j).trans (jF _ hgp _ _ j))
  exact⟨(hk _).trans g0,(hk _).trans g1⟩
 go_wp2_with fail
 go_region_held3 (fun w'=>w'.cell? ⟨g,0,none⟩=some (.int .i64 sv'.1)/\w'.cell? ⟨g,1,none⟩=some (.int .i64 sv'.2)) (first|(go_keep;done)|exact HKS.out _ _|exact HKT.out _ _ _) (fail)
 exact bodyPost_end (v:=.tuple #[]) (by simp[results]) rfl ⟨rfl,g,sv',w2,w3,rfl,HB2.out,HFin.out⟩
theorem PHas.front {N:Nat} {ws:List Wd} {nm:List ByteArray} {room:Int} {us us':List Wd} {ts ts':List (Tm N)} (h:PHas N ws nm room (us++us') (ts++ts')) (hl:us.length=ts.length):PHas N ws nm room us ts:=by
 obtain⟨k1,k2,k3,k4,k5,k6,k7,k8⟩:=h
 refine⟨⟨hl,fun i v y hv hy=>k1.2 i v y ?_ ?_⟩, ?_,fun y hy=>k3 y (List.mem_append_left _ hy), ?_,k5,k6,k7,k8⟩
 ·rw[List.getElem?_append_left (List.getElem?_eq_some_iff.1 hv).1]
  exact hv
 ·rw[List.getElem?_append_left (List.getElem?_eq_some_iff.1 hy).1]
  exact hy
 ·rw[List.flatMap_append]at k2
  exact(List.nodup_append.1 k2).1
 ·rw[List.map_append,List.sum_append]at k4
  have h0:(0:Int)<=(ts'.map (sz N)).sum:=by
   clear k1 k2 k4
   induction ts' with
   | nil=>simp
   | cons y l ih=>
    have h1:=ih fun z hz=>k3 z (by simp only[List.mem_append,List.mem_cons]at hz ⊢;rcases hz with hz|hz<;>simp[hz])
    have h2:=(bD N y).1
    simp only[List.map_cons,List.sum_cons]
    omega
  omega
theorem Cu {N:Nat}:(l:List (Tm N))->(l.map fun y=>1+sz N y).sum=l.length+(l.map (sz N)).sum
 | []=>by simp
 | y::l=>by
  have h:=Cu l
  simp only[List.map_cons,List.sum_cons,List.length_cons,h]
  omega
theorem uY {N:Nat}:(l:List (Tm N))->(∀y∈l,ak ⟨N,y⟩)->((l.flatMap fun y=>nodes N y).length:Int)<=(l.map fun y=>1+sz N y).sum
 | [],_=>by simp
 | y::l,h=>by
  have h1:=uY l fun z hz=>h z (by simp[hz])
  have h2:=qY N y (h y (by simp))
  simp only[List.flatMap_cons,List.length_append,List.map_cons,List.sum_cons]
  omega
theorem PHas.roots {N:Nat} {ws:List Wd} {nm:List ByteArray} {room:Int} {us:List Wd} {ts:List (Tm N)} (h:PHas N ws nm room us ts) (hu:us.length<=1000):Roots ws nm N us ts:=by
 obtain⟨k1,k2,k3,k4,k5,k6,k7,k8⟩:=h
 have hr:∀y∈ts,ak ⟨N,y⟩:=fun y hy=>lJ (k3 y hy).1
 have h1:=Cu ts
 have h2:=uY ts hr
 have h3:=k1.1
 exact⟨k1,hr,fun y hy=>(k3 y hy).2,by omega,by omega,hu⟩
theorem Ak {base n c:Nat} {a:Option Addr} {vs:List Wd} {w:World} (h:w.ownsRow base 68 2 (.slice a n c) n (aB vs)) (h0:0<n):dm w vs a/\∀b o,a=some ⟨b,o,none⟩->b<w.heap.size:=by
 rcases h.2 with⟨e,e0⟩|⟨g,cap,cur,e,hg,hh,_⟩
 ·omega
 ·injection e with e1 e2 e3
  subst e1 e3
  have hlt:=(Array.getElem?_eq_some_iff.1 hh).1
  refine⟨Or.inr ⟨g,0,rfl,hlt,fun i v hv=> ?_⟩,fun b o e=> ?_⟩
  ·have:=gG h i v hv
   rw[Nat.zero_add]
   exact this
  ·injection e with e
   injection e with e
   omega
section
variable {base pb:Nat} {name:ByteArray} {room:Int} {N:Nat} {s:Tm (N+1)} {ms:List (Tm (N+1))} {xs:List (Wd×Tm (N+1))} {nk:Nat} {M:Nat->Prop} {w:World} {ws:List Wd} {nm:List ByteArray} {sv:Wd} {vs:List Wd} {ma:Option Addr} {mc:Nat} {Mh:Nat->Prop}
theorem PrAt.front (h:PrAt base pb name room (N+1) s ms xs nk M w ws nm sv vs ma mc Mh):PHas (N+1) ws nm room (sv::vs) (s::ms):=
 PHas.front h.has (by simp[h.len])
theorem Bb {w:World} {pb:Nat} {c0 c1 c2 c3 c4 c5 c6 c7:Value} {t:TypeId} (sv:Wd) (mv:Value) (h:w.heap[pb]? =some (.cells #[c0,c1,c2,c3,c4,c5,c6,c7] t)):(xx w pb sv mv).heap[pb]? =some (.cells #[c0,c1,c2,c3,c4,.int .i64 sv.1,.int .i64 sv.2,mv] t):=by
 unfold xx World.setCell
 simp[Array.getElem?_modify,h]
theorem DY (w:World) (pb:Nat) (sv:Wd) (mv:Value):Keep (fun b=>b=pb) w (xx w pb sv mv).drew:=by
 have h1:=aI w pb 5 (.int .i64 sv.1)
 have h2:=aI (w.setCell ⟨pb,5,none⟩ (.int .i64 sv.1)) pb (5+1) (.int .i64 sv.2)
 have h3:=aI ((w.setCell ⟨pb,5,none⟩ (.int .i64 sv.1)).setCell ⟨pb,5+1,none⟩ (.int .i64 sv.2)) pb 7 mv
 have h:=(h1.trans h2 fun _ _ k=>k).trans h3 fun _ _ k=>k
 exact⟨h.os,h.tape,h.output,h.size,h.block⟩
def Iy (base pb:Nat) (name:ByteArray) (room:Int) (N:Nat) (s:Tm N) (ms:List (Tm N)) (nk:Nat) (M:Nat->Prop) (nm:List ByteArray) (w:World) (e:Ending) (w':World):Prop:=
 e=.returned (.tuple #[])/\∃ws' sv' vs' ma' Mh',PrAt base pb name room N s ms [] nk (fun b=>M b∨w.heap.size<=b) w' ws' nm sv' vs' ma' vs'.length Mh'/\Hid (Keep M w w'/\(ws'.length:Int)=((s::ms).map (sz N)).sum)
theorem PrAt.tidy (h:PrAt base pb name room (N+1) s ms xs nk M w ws nm sv vs ma mc Mh) (hnk:nk<=50000) (h20:ms.length<=999) (hbw:base<=w.heap.size):
    Calls Tryz.prog 13 #[.pointer (some ⟨pb,0,none⟩)] w (Iy base pb name room (N+1) s ms nk M nm w):=by
 have hfr:=h.front
 have hlen:=h.len
 have hnn:=h.names
 have hrt:=hfr.roots (by simp only[List.length_cons];omega)
 obtain⟨ht1,ht2,ht3⟩:=hfr.tidied
 obtain⟨sv',vs',hR⟩:∃sv' vs',(iH ws (N+1) (sv::vs)).1=sv'::vs':=by
  cases hh:(iH ws (N+1) (sv::vs)).1 with
  | nil=>rw[hh]at ht3;simp at ht3
  | cons a l=>exact⟨a,l,rfl⟩
 rw[hR]at ht1 ht3
 simp only[List.length_cons]at ht3
 have hLv:vs'.length=vs.length:=by omega
 obtain⟨_,_,_,_,k5,_,k7,_⟩:=hfr
 refine(DL pb sv vs vs.length ma mc w (fun g u w1 w3=>u=sv'/\vQ base (PL pb name sv (.slice ma vs.length mc)) room (iH ws (N+1) (sv::vs)) nm Mh g w1 w3) rfl (by omega) ?_ ?_ ?_).mono ?_
 ·intro w1 hb
  obtain⟨tv,lv,mv,h1,_⟩:=(h.later hb).heap.box
  obtain⟨_,c5,c6,c7,_⟩:=PL.cells h1
  exact⟨c5,c6,c7⟩
 ·intro w1 hb
  exact(h.later hb).mail.words
 ·intro w1 hb a c hown
  have hs:=hb.size
  obtain⟨hin,hlt⟩:=Ak hown (by omega)
  have hl:(sv::vs).length=1+vs.length:=by simp only[List.length_cons];omega
  have hc:=vN (N+1) (s::ms) (sv::vs) a c base (PL pb name sv (.slice ma vs.length mc)) room ws nm Mh w1 (h.later hb).heap hrt hin hlt (by omega) (by omega) (by omega)
  rw[hl]at hc
  refine hc.mono ?_
  rintro e w3 ⟨g,rfl,HO⟩
  have HO2:=HO.out
  obtain⟨o1,o2,o3,o4,o5,o6⟩:=HO2
  obtain⟨tv,lv,mv,h1,_⟩:=o1.box
  obtain⟨_,d5,d6,d7,d8,d9⟩:=PL.cells h1
  obtain⟨tv0,lv0,mv0,h10,_⟩:=(h.later hb).heap.box
  have hpb:pb<w1.heap.size:=(PL.cells h10).2.2.2.2.2
  refine⟨g,sv',rfl,⟨?_,by omega,⟨_,_,_,d5,d6,d7⟩,d8,rfl,HO.out⟩⟩
  rw[hR]at o3
  rcases o3 with e|⟨b,o,e,hlb,hcl⟩
  ·cases e
  ·injection e with e
   injection e with e1 e2
   subst e1 e2
   have:=hcl 0 sv' rfl
   simpa using this
 ·rintro e w' ⟨rfl,g,u,w1,w3,rfl,HF⟩
  obtain⟨hb,rfl,o1,o2,o3,o4,o5,len,o6⟩:=HF.out
  have hs:=hb.size
  obtain⟨tv0,lv0,mv0,h10,_⟩:=(h.later hb).heap.box
  have hpb:pb<w1.heap.size:=(PL.cells h10).2.2.2.2.2
  have hMp:Mh pb:=by
   obtain⟨_,_,_,_,_,_,q,_⟩:=h.heap
   exact q
  have hk:=DY w3 pb u (.slice (rV g vs.length) vs.length vs.length)
  rw[hR]at o6
  have hgp:¬g=pb:=by omega
  refine⟨rfl,(iH ws (N+1) (sv::vs)).2.1,u,vs',rV g vs.length,fun b=>(Mh b∨w1.heap.size<=b)/\b≠g,⟨?_, ?_, ?_,by omega,hnn, ?_, ?_⟩, ?_⟩
  ·rw[hLv]
   exact o1.turn hk fun tv lv mp hc=>Bb u _ hc
  ·rw[hLv]
   rcases o6.2 with⟨e,e0⟩|⟨g',cap,cur,e,_,hh,hle,hmx,hsz,htk⟩
   ·cases e
   ·injection e with e1 e2 e3
    injection e1 with e1
    injection e1 with e1
    subst e1 e3
    have hh':(xx w3 pb u (.slice (rV g vs.length) vs.length vs.length)).drew.heap[g]? =some (.cells cur 68 (0,0)):=(hk.block g (Array.getElem?_eq_some_iff.1 hh).1 hgp).trans hh
    have hlen2:=o6.1
    rw[bf]at hlen2
    simp only[List.length_cons]at hlen2
    refine Or.inr ?_
    by_cases h0:vs.length=0
    ·refine⟨g,0,cur,by simp[rV,h0],by simp,hh',by omega,by unfold maxLen;omega,by omega, ?_⟩
     have:vs'=[]:=List.length_eq_zero_iff.1 (by omega)
     simp[this,aB]
    ·refine⟨g,2,cur,by simp[rV,h0],by simp,hh',by omega,by omega,by omega, ?_⟩
     have e:len*2=2+vs'.length*2:=by omega
     rw[e]at htk
     have e2:=congrArg (List.drop 2) htk
     rw[List.drop_take,show 2+vs'.length*2-2=vs'.length*2 from by omega]at e2
     exact e2
  ·simpa using ht1
  ·intro b hb'
   rcases hb'.1 with q|q
   ·exact Or.inl (h.inM b q)
   ·exact Or.inr (by omega)
  ·intro a ha
   have:a.block=g:=by
    unfold rV at ha
    split at ha
    ·injection ha with ha;rw[<-ha]
    ·injection ha with ha;rw[<-ha]
   exact Or.inr (by omega)
  ·refine⟨?_,ht2⟩
   refine Keep.trans ((aC hb M).trans (o2.mono h.inM) fun _ _ q=>q) hk fun b _ q=> ?_
   rw[q]
   exact h.inM pb hMp
end
end Go.Proofs.YtbknffhilfoakaaGreat
