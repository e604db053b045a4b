/- What is proved here: plain facts and contracts that the claimed theorem stands on. No condition but those that each names. -/
import Derived.Test.YtmbjgiaebneodaaGreatG30
namespace Go.Proofs.YtmbjgiaebneodaaGreat
open Go.RowKit Go.Maps
set_option maxRecDepth 100000
set_option maxHeartbeats 2000000
variable {base n N:Nat} {wp:BL} {mo:Option Nat} {f:Int×Int->List (Tm (N+1))} {sl:Int×Int->Value} {w:World}
def TakeUp (base:Nat) (wp:BL) (mo:Option Nat) (n N:Nat) (f:Int×Int->List (Tm (N+1))) (sl:Int×Int->Value) (k:Int×Int) (l:List (Tm (N+1))) (w w':World):Prop:=
 ∃sl',WyAt base wp mo (n+1) (N+1) (upd f k l) sl' w'/\Kee (pW wp mo sl) w w'/\∀b,pW wp mo sl' b->pW wp mo sl b
theorem TakeUp.later {k:Int×Int} {l:List (Tm (N+1))} {w' w2:World} (h0:WyAt base wp mo n (N+1) f sl w) (h:TakeUp base wp mo n N f sl k l w w') (hb:Below w.heap.size w' w2):TakeUp base wp mo n N f sl k l w w2:=by
 obtain⟨sl',h1,h2,h3⟩:=h
 have hk:Kee (fun b=>w.heap.size<=b) w' w2:=⟨hb.os,hb.tape,hb.output,hb.size,fun b _ hb'=>hb.block b (by omega)⟩
 refine⟨sl',h1.kee hk fun b hb' hs=> ?_,Kee.trans h2 hk fun b hb' hs=> ?_,h3⟩
 ·have:=(h0.lt b (h3 b hb')).2
  omega
 ·omega
theorem Hy {base g c L:Nat} {y:Tm (N+1)} {l:List (Tm (N+1))} (h:w.ownsRow base 30 4 (.slice (some ⟨g,0,none⟩) L c) L (bS (N+1) (y::l))):w.cell? ⟨g,0,none⟩=some (.int .i64 y.1.1)/\w.cell? ⟨g,1,none⟩=some (.int .i64 y.1.2.1)/\w.cell? ⟨g,2,none⟩=some (.string y.1.2.2)/\w.cell? ⟨g,3,none⟩=some (.slice y.2.1.1 y.2.2.length y.2.1.2):=by
 have h1:=JR (l:=(y::l).map (gZ (N+1))) h 0 (gZ (N+1) y) (by simp)
 simp only[Nat.zero_mul,Nat.zero_add]at h1
 exact h1
theorem Md (h:WyAt base wp mo n (N+1) f sl w) {a b:Int} (hk:I2 (a,b)) (hn:n<999999) (hl:(f (a,b)).length<=1000):
    Calls Tryz.prog 39 #[.pointer (some ⟨wp.b,wp.o,none⟩),.int .i64 a,.int .i64 b] w fun e w'=>
     (f (a,b)=[]->e=.returned (.tuple #[.agg #[.int .i64 0,.int .i64 0,.string ⟨#[]⟩,.slice none 0 0],.int .i64 4])/\Below w.heap.size w w')/\
     ∀y l,f (a,b)=y::l->e=.returned (.tuple #[val (N+1) y,.int .i64 0])/\TakeUp base wp mo n N f sl (a,b) l w w':=by
 have hwp:=h.lt wp.b (Or.inl rfl)
 have hlook:∀W,Below w.heap.size w W->(Instr.lookup 65 (.map mo) (.agg #[.int .i64 a,.int .i64 b]) false).run Tryz.prog W=.ok (sl (a,b)) W:=fun W hW=>(h.later hW).look hk
 cases hf:f (a,b)with
 | nil=>
  have hs:sl (a,b)=.slice none 0 0:=by
   rcases h.2.2 with⟨_,_,rfl⟩|⟨mb,rfl,hg⟩
   ·rfl
   ·obtain⟨D,h1,h2,h3⟩:=hg.map
    have hno:has D (kl (a,b))=false:=by
     cases hh:has D (kl (a,b))
     ·rfl
     ·obtain⟨j,hj,ej,hfj⟩:=(h3 _).1 hh
      rw[<-ol hk hj ej]at hfj
      exact absurd hf hfj
    have:=h2 (a,b) hk
    rw[atKey_of_not_has hno]at this
    injection this with this
    exact this.symm
  rw[hs]at hlook
  refine(Ii wp mo a b w hwp.2 h.cell.1 hlook).mono ?_
  rintro e w' ⟨rfl,hb⟩
  exact⟨fun _=>⟨rfl,hb⟩,fun y l e=>by cases e⟩
 | cons y l=>
  rcases h.2.2 with⟨_,rfl,_⟩|⟨mb,rfl,hg⟩
  ·cases hf
  ·obtain⟨sa,sc,hs,hrow⟩:=(hg.row (a,b) hk).at
   rw[hf]at hs hrow hl
   have hmb:=hg.lt mb (Or.inl rfl)
   obtain⟨g,rfl⟩:∃g,sa=some ⟨g,0,none⟩:=by
    rcases hrow.2 with⟨e,_⟩|⟨g,cap,cur,e,_⟩
    ·simp at e
    ·simp at e
     exact⟨g,e.1⟩
   have hgl:=hrow.lt g rfl
   have hpg:wp.b≠g:=fun e=>zJ h hk (by rw[hs,e];rfl)
   have hy:=Hy hrow
   rw[hs]at hlook
   cases hl0:l with
   | nil=>
    subst hl0
    refine(JL wp mb g sc y.1.1 y.1.2.1 y.1.2.2 y.2.1.1 y.2.2.length y.2.1.2 a b w (fun w'=>TakeUp base wp (some mb) n N f sl (a,b) [] w w') hwp.2 hgl.2 hmb.2 (wh h) hpg h.cell.1 hlook hy fun W hW=> ?_).mono ?_
    ·have hG:GM base mb n (N+1) f sl W:=hg.kee (aj hW fun _=>False) fun _ _ hf=>hf
     obtain⟨w2,hrun,hG2,hk2,hs2⟩:=hG.drop hk 3
     have hrun':∀ty,(Builtin.delete_ #[65,151] ty #[.map (some mb),.agg #[.int .i64 a,.int .i64 b]]).run Tryz.prog W=.ok (.tuple #[]) w2:=fun ty=>hrun
     refine⟨w2,hrun',hk2,hs2,fun w3 hb3=> ?_⟩
     have ht:TakeUp base wp (some mb) n N f sl (a,b) [] w w2:=by
      refine⟨_,⟨h.1,(h.2.1.kept (hW.block wp.b hwp.2)).kept (hk2.block wp.b (Nat.lt_of_lt_of_le hwp.2 hW.size) (wh h)),Or.inr ⟨mb,rfl,hG2.mono (Nat.le_succ n)⟩⟩,Kee.trans (aj hW _) hk2 fun q _ e=>Or.inr (Or.inl (by rw[e])),fun q hb=> ?_⟩
      rcases hb with hb|hb|⟨j,hj,hb⟩
      ·exact Or.inl hb
      ·exact Or.inr (Or.inl hb)
      ·by_cases e:j=(a,b)
       ·rw[e,upd_same]at hb
        simp[kL,Value.ownBlock]at hb
       ·rw[aS _ _ e]at hb
        exact Or.inr (Or.inr ⟨j,hj,hb⟩)
     exact TakeUp.later h ht hb3
    ·rintro e w' ⟨rfl,ht⟩
     refine⟨fun e=>(by cases e),fun y' l' e=> ?_⟩
     injection e with e1 e2
     subst e1 e2
     exact⟨rfl,ht⟩
   | cons y2 l2=>
    rw[<-hl0]
    have hlne:l≠[]:=by rw[hl0];simp
    have hlm:1<=l.length:=List.length_pos_iff.2 hlne
    refine(II wp mb g sc l.length y.1.1 y.1.2.1 y.1.2.2 y.2.1.1 y.2.2.length y.2.1.2 a b w (fun w'=>TakeUp base wp (some mb) n N f sl (a,b) l w w') (fun W w'=>TRow base (N+1) (.slice (some ⟨g,0,none⟩) l.length sc) l w'/\w'.heap.size=W.heap.size) hlm (by simp at hl;omega) hwp.2 hgl.2 hmb.2 (wh h) hpg h.cell.1 hlook hy (fun W hW=> ?_) (fun W W1 hR hW hg1=> ?_)).mono ?_
    ·refine(DU base g sc l.length y l W rfl (aG hrow (aj hW fun _=>False) fun _ _ hf=>hf) hlne).mono ?_
     rintro e w' ⟨rfl,h1,h2,h3⟩
     exact⟨rfl,h2,h1,h3⟩
    ·have hG:GM base mb n (N+1) f sl W:=hg.kee (aj hW fun _=>False) fun _ _ hf=>hf
     have hsk:(sl (a,b)).ownBlock=some g:=by rw[hs];rfl
     obtain⟨w2,hrun,hG2,hk2,hs2⟩:=hG.store hk (w1:=W1) ((cO hg1).mono fun b _ e=>hsk.trans e) hlne hR.1 (fun b hb=>Or.inl (hsk.trans hb)) (by omega)
     refine⟨w2,hrun,hk2,fun w3 hb3=> ?_⟩
     have kW:Kee (pW wp (some mb) sl) w W1:=Kee.trans (aj hW _) (cO hg1) fun q _ e=>Or.inr (Or.inr ⟨(a,b),hk,hsk.trans e⟩)
     have hwp1:W1.heap[wp.b]? =w.heap[wp.b]? :=(hg1.block wp.b (Nat.lt_of_lt_of_le hwp.2 hW.size) (fun e=>hpg (Option.some.inj e))).trans (hW.block wp.b hwp.2)
     have hsW:=hW.size
     have ht:TakeUp base wp (some mb) n N f sl (a,b) l w w2:=by
      refine⟨_,⟨h.1,(h.2.1.kept hwp1).kept (hk2.block wp.b (by rw[hR.2];omega) (wh h)),Or.inr ⟨mb,rfl,hG2⟩⟩,Kee.trans kW hk2 fun q _ e=>Or.inr (Or.inl (by rw[e])),fun q hb=> ?_⟩
      rcases hb with hb|hb|⟨j,hj,hb⟩
      ·exact Or.inl hb
      ·exact Or.inr (Or.inl hb)
      ·by_cases e:j=(a,b)
       ·rw[e,upd_same]at hb
        exact Or.inr (Or.inr ⟨(a,b),hk,hsk.trans hb⟩)
       ·rw[aS _ _ e]at hb
        exact Or.inr (Or.inr ⟨j,hj,hb⟩)
     exact TakeUp.later h ht hb3
    ·rintro e w' ⟨rfl,ht⟩
     refine⟨fun e=>(by cases e),fun y' l' e=> ?_⟩
     injection e with e1 e2
     subst e1 e2
     exact⟨rfl,ht⟩
def gW (x y:Int):Int×Int:=(min x y,max x y)
def oh:List Int:=(List.range 99).map fun i:Nat=>(i:Int)+1
theorem CP {y:Int}:y∈oh ↔ 1<=y/\y<=99:=by
 simp only[oh,List.mem_map,List.mem_range]
 constructor
 ·rintro ⟨i,hi,rfl⟩
  omega
 ·intro h
  exact⟨(y-1).toNat,by omega,by omega⟩
theorem lY:oh.length=99:=by simp[oh]
theorem D7:oh.Nodup:=by
 unfold oh
 refine List.Pairwise.map _ ?_ List.nodup_range
 intro a b h e
 exact h (by omega)
theorem Lj (i:Nat) (h:i<99):oh[i]? =some ((i:Int)+1):=by simp[oh,h]
def o7 (g:Int×Int->Bool) (x:Int):List Int:=oh.filter fun y=>g (gW x y)
def OKg (g:Int×Int->Bool):Prop:=∀k,g k=true->1<=k.1/\k.1<k.2/\k.2<=99
theorem gX {g:Int×Int->Bool} {x y:Int}:y∈o7 g x ↔ (1<=y/\y<=99)/\g (gW x y)=true:=by
 rw[o7,List.mem_filter,CP]
theorem ni (g:Int×Int->Bool) (x:Int):(o7 g x).Nodup:=D7.sublist List.filter_sublist
theorem vJ (g:Int×Int->Bool) (x:Int):(o7 g x).length<=99:=by
 have:=List.length_filter_le (fun y=>g (gW x y)) oh
 rw[lY]at this
 exact this
theorem fI (x y:Int):gW x y=(x,y)/\x<=y∨gW x y=(y,x)/\y<=x:=by
 rcases Int.le_total x y with h|h
 ·exact Or.inl ⟨by simp[gW,Int.min_eq_left h,Int.max_eq_right h],h⟩
 ·exact Or.inr ⟨by simp[gW,Int.min_eq_right h,Int.max_eq_left h],h⟩
theorem Iu {g:Int×Int->Bool} (hg:OKg g) {x y:Int} (h:g (gW x y)=true):(1<=x/\x<=99)/\(1<=y/\y<=99)/\x≠y:=by
 have:=hg _ h
 rcases fI x y with⟨e,_⟩|⟨e,_⟩<;>(rw[e]at this;simp at this;omega)
theorem Dh {g:Int×Int->Bool} (hg:OKg g) (x:Int):x∉o7 g x:=fun h=>(Iu hg (gX.1 h).2).2.2 rfl
def wo (g:Int×Int->Bool) (l:List Int):Int×Int->Bool:=fun k=>g k && !l.contains k.1 && !l.contains k.2
theorem rA {g:Int×Int->Bool} {l:List Int} {k:Int×Int}:wo g l k=true ↔ g k=true/\k.1∉l/\k.2∉l:=by
 simp[wo,and_assoc]
theorem Ov {g:Int×Int->Bool} {l:List Int} {x y:Int}:wo g l (gW x y)=true ↔ g (gW x y)=true/\x∉l/\y∉l:=by
 rw[rA]
 rcases fI x y with⟨e,_⟩|⟨e,_⟩
 ·rw[e]
 ·rw[e]
  constructor
  ·rintro ⟨a,b,c⟩
   exact⟨a,c,b⟩
  ·rintro ⟨a,b,c⟩
   exact⟨a,c,b⟩
theorem OKg.wo {g:Int×Int->Bool} (hg:OKg g) (l:List Int):OKg (wo g l):=fun k hk=>hg k (rA.1 hk).1
theorem Qr (g:Int×Int->Bool) (l r:List Int):wo (wo g l) r=wo g (l++r):=by
 funext k
 rw[Bool.eq_iff_iff,rA,rA,rA]
 simp only[List.mem_append,not_or]
 constructor
 ·rintro ⟨⟨a,b,c⟩,d,e⟩
  exact⟨a,⟨b,d⟩,c,e⟩
 ·rintro ⟨a,⟨b,d⟩,c,e⟩
  exact⟨⟨a,b,c⟩,d,e⟩
def tQ (g:Int×Int->Bool) (x:Int) (l:List Int):Int×Int->Bool:=l.foldl (fun g y=>upd g (gW x y) false) g
theorem CF {g:Int×Int->Bool} {x:Int} {l:List Int} {k:Int×Int}:tQ g x l k=true ↔ g k=true/\∀y∈l,k≠gW x y:=by
 induction l generalizing g with
 | nil=>simp[tQ]
 | cons y l ih=>
  have h:tQ g x (y::l)=tQ (upd g (gW x y) false) x l:=rfl
  rw[h,ih]
  unfold upd
  by_cases e:k=gW x y
  ·simp[e]
  ·simp[e]
theorem Ht (g:Int×Int->Bool) (x:Int) (l:List Int) (y:Int):tQ g x (l++ [y])=upd (tQ g x l) (gW x y) false:=by simp[tQ]
theorem NG {g:Int×Int->Bool} (hg:OKg g) (x:Int):tQ g x (o7 g x)=wo g [x]:=by
 funext k
 rw[Bool.eq_iff_iff,CF,rA]
 refine and_congr_right fun hk=> ?_
 have hr:=hg k hk
 simp only[List.mem_singleton]
 constructor
 ·intro h
  refine⟨fun e=> ?_,fun e=> ?_⟩
  ·have e2:k=gW x k.2:=by
     rcases fI x k.2 with⟨e',_⟩|⟨_,e'⟩
     ·rw[e',<-e]
     ·omega
   exact h k.2 (gX.2 ⟨by omega,e2▸hk⟩) e2
  ·have e2:k=gW x k.1:=by
     rcases fI x k.1 with⟨_,e'⟩|⟨e',_⟩
     ·omega
     ·rw[e',<-e]
   exact h k.1 (gX.2 ⟨by omega,e2▸hk⟩) e2
 ·rintro ⟨h1,h2⟩ y _ e
  rcases fI x y with⟨e',_⟩|⟨e',_⟩
  ·exact h1 (by rw[e,e'])
  ·exact h2 (by rw[e,e'])
/-! ### who is told -/
def yQ (t l:List Int):List Int:=l.filter fun y=> !t.contains y
def bO (g:Int×Int->Bool) (x:Int):Nat->List Int
 | 0=>o7 g x
 | i+1=>match (bO g x i)[i]? with
  | some y=>bO g x i++yQ (bO g x i) (o7 (wo g (x::(bO g x i).take i)) y)
  | none=>bO g x i
def tC (g:Int×Int->Bool) (x:Int):List Int:=bO g x 99
theorem qE {t l:List Int} {y:Int}:y∈yQ t l ↔ y∈l/\y∉t:=by simp[yQ]
structure Told (g:Int×Int->Bool) (x:Int) (l:List Int):Prop where
 nodup:l.Nodup
 self:x∉l
 rng:∀y∈l,1<=y/\y<=99
 from':∀i y,l[i]? =some y->∃k∈x::l.take i,y∈o7 g k
theorem nodup_append {t l:List Int} (h1:t.Nodup) (h2:l.Nodup) (h3:∀y∈l,y∉t):(t++l).Nodup:=by
 rw[List.nodup_append]
 exact⟨h1,h2,fun a ha b hb e=>h3 b hb (e▸ha)⟩
theorem sO {l:List Int} {i:Nat} {y:Int} (h:l.Nodup) (hy:l[i]? =some y):y∉l.take i:=by
 intro hm
 obtain⟨j,hj,ej⟩:=List.getElem_of_mem hm
 rw[List.length_take]at hj
 rw[List.getElem_take]at ej
 obtain⟨hl,e2⟩:=List.getElem?_eq_some_iff.1 hy
 exact(List.pairwise_iff_getElem.1 h) j i (by omega) hl (by omega) (ej.trans e2.symm)
theorem gI {g:Int×Int->Bool} (hg:OKg g) (x:Int):∀i,Told g x (bO g x i)
 | 0=>⟨ni g x,Dh hg x,fun y hy=>(gX.1 hy).1,fun i y hy=>⟨x,by simp,List.mem_of_getElem? hy⟩⟩
 | i+1=>by
  have ih:=gI hg x i
  unfold bO
  split
  ·rename_i y hy
   refine⟨nodup_append ih.nodup ((ni _ _).sublist List.filter_sublist) fun z hz=>(qE.1 hz).2, ?_, ?_, ?_⟩
   ·intro h
    rcases List.mem_append.1 h with h|h
    ·exact ih.self h
    ·have:=(Ov.1 (gX.1 (qE.1 h).1).2).2.2
     simp at this
   ·intro z hz
    rcases List.mem_append.1 hz with h|h
    ·exact ih.rng z h
    ·exact(gX.1 (qE.1 h).1).1
   ·intro j z hz
    rw[List.getElem?_append]at hz
    split at hz
    ·rename_i hj
     obtain⟨k,hk,hk2⟩:=ih.from' j z hz
     refine⟨k, ?_,hk2⟩
     rw[List.take_append_of_le_length (by omega)]
     exact hk
    ·rename_i hj
     have hm:=qE.1 (List.mem_of_getElem? hz)
     refine⟨y, ?_,gX.2 ⟨(gX.1 hm.1).1,(Ov.1 (gX.1 hm.1).2).1⟩⟩
     refine List.mem_cons_of_mem _ ?_
     rw[List.take_append]
     refine List.mem_append_left _ ?_
     rw[List.take_of_length_le (by omega)]
     exact List.mem_of_getElem? hy
  ·exact ih
theorem KG {l:List Int} (h:l.Nodup):∀{r:List Int},(∀y∈l,y∈r)->l.length<=r.length:=by
 induction l with
 | nil=>simp
 | cons y l ih=>
  intro r hr
  rw[List.nodup_cons]at h
  have hy:=hr y (by simp)
  have:=ih h.2 (r:=r.erase y) fun z hz=>(List.mem_erase_of_ne (fun e:z=y=>h.1 (e▸hz))).2 (hr z (by simp[hz]))
  rw[List.length_erase_of_mem hy]at this
  have:=List.length_pos_of_mem hy
  simp
  omega
theorem Told.le {g:Int×Int->Bool} {x:Int} {l:List Int} (h:Told g x l):l.length<=99:=by
 have:=KG h.nodup (r:=oh) fun y hy=>CP.2 (h.rng y hy)
 rwa [lY]at this
theorem oG {g:Int×Int->Bool} {x:Int} {i:Nat} (h:(bO g x i).length<=i):∀j,bO g x (i+j)=bO g x i
 | 0=>rfl
 | j+1=>by
  have ih:=oG h j
  have:bO g x (i+j+1)=bO g x (i+j):=by
   rw[bO]
   rw[List.getElem?_eq_none (by rw[ih];omega)]
  rw[<-Nat.add_assoc,this,ih]
theorem Hd {g:Int×Int->Bool} (hg:OKg g) {x:Int} {i:Nat} (h:(bO g x i).length<=i):bO g x i=tC g x:=by
 unfold tC
 rcases Nat.le_total i 99 with h1|h1
 ·obtain⟨j,e⟩:=Nat.le.dest h1
  rw[<-e,oG h j]
 ·obtain⟨j,rfl⟩:=Nat.le.dest h1
  exact oG ((gI hg x 99).le) j
theorem Ev {g:Int×Int->Bool} (hg:OKg g) (x:Int):Told g x (tC g x):=gI hg x 99
theorem NU {x y u v:Int}:gW u v=gW x y ↔ (u=x/\v=y)∨(u=y/\v=x):=by
 rcases fI x y with⟨e,h1⟩|⟨e,h1⟩<;>rcases fI u v with⟨e',h2⟩|⟨e',h2⟩<;>(rw[e,e'];simp only[Prod.mk.injEq];omega)
theorem Jk (i:Nat) (h:i<99):oh.take (i+1)=oh.take i++ [(i:Int)+1]:=by
 rw[List.take_add_one,Lj i h]
 rfl
def p9 (g:Int×Int->Bool) (x:Int) (i:Nat):List Int:=(oh.take i).filter fun y=>g (gW x y)
theorem Io (g:Int×Int->Bool) (x:Int) (i:Nat) (hi:i<99):p9 g x (i+1)=p9 g x i++if g (gW x ((i:Int)+1))then [(i:Int)+1]else []:=by
 rw[p9,Jk i hi,List.filter_append,List.filter_cons,List.filter_nil]
 rfl
theorem Mk (g:Int×Int->Bool) (x:Int):p9 g x 99=o7 g x:=by
 rw[p9,List.take_of_length_le (by rw[lY];exact Nat.le_refl _)]
 rfl
theorem BM (g:Int×Int->Bool) (x:Int) (i:Nat):(p9 g x i).length<=i:=by
 have:=List.length_filter_le (fun y=>g (gW x y)) (oh.take i)
 rw[List.length_take]at this
 unfold p9
 omega
theorem Jn (t l:List Int) (y:Int) (hl:y∉l):yQ t (l++ [y])=yQ t l++if (t++yQ t l).contains y then []else [y]:=by
 unfold yQ
 rw[List.filter_append,List.filter_cons,List.filter_nil]
 have h:(t++l.filter fun y=> !t.contains y).contains y=t.contains y:=by
  rw[Bool.eq_iff_iff]
  simp[hl]
 rw[h]
 cases t.contains y<;>rfl
structure SM (base mb n:Nat) (g:Int×Int->Bool) (w:World):Prop where
 lo:base<=mb
 map:∃D:DataW Value,w.ownsMap Tryz.prog 151 unitElem mb n D/\∀k,I2 k->has D (kl k)=g k
variable {base mb n:Nat} {g:Int×Int->Bool} {w:World}
theorem SM.lt (h:SM base mb n g w):base<=mb/\mb<w.heap.size:=by
 obtain⟨D,h1,_⟩:=h.map
 exact⟨h.lo,h1.lt⟩
theorem SM.kee {S:Nat->Prop} {w':World} (h:SM base mb n g w) (k:Kee S w w') (hS:¬S mb):SM base mb n g w':=by
 obtain⟨D,h1,h2⟩:=h.map
 refine⟨h.lo,D, ?_,h2⟩
 have hlt:=h1.lt
 obtain⟨es,clock,hb,hr⟩:=h1
 exact⟨es,clock,(k.block mb hlt hS).trans hb,hr⟩
theorem SM.later {w':World} (h:SM base mb n g w) (k:Below w.heap.size w w'):SM base mb n g w':=h.kee (aj k fun _=>False) id
theorem SM.rebase {base':Nat} (h:SM base mb n g w) (hb:base'<=base):SM base' mb n g w:=⟨Nat.le_trans hb h.lo,h.map⟩
theorem SM.mono (h:SM base mb n g w) {m:Nat} (hm:n<=m):SM base mb m g w:=by
 obtain⟨h1,D,h2,h3⟩:=h
 exact⟨h1,D,h2.mono hm,h3⟩
theorem SM.new (w:World):SM w.heap.size w.heap.size 0 (fun _=>false) (w.alloc (.map #[] 0)):=
 ⟨Nat.le_refl _,.map [],World.ownsMap_made w _ _ _,fun k _=>by simp[has]⟩
theorem CW (w:World):(zeroValue 191).run Tryz.prog w=.ok (.agg #[]) w:=by kernel_rfl
theorem SM.look (h:SM base mb n g w) {k:Int×Int} (hk:I2 k):(Instr.lookup 68 (.map (some mb)) (pk k) true).run Tryz.prog w=.ok (.tuple #[.agg #[],.bool (g k)]) w:=by
 obtain⟨D,h1,h2⟩:=h.map
 obtain⟨v,ps,hrun,hv⟩:=h1.look_ok dN Tryz.underlying68 (CW w) unitElem_mk (dZ hk)
 obtain⟨rfl,_⟩:=unitElem_inv hv
 rw[hrun,h2 k hk]
theorem EJ (w:World) {k:Int×Int} (hk:I2 k):(Instr.lookup 68 (.map none) (pk k) true).run Tryz.prog w=.ok (.tuple #[.agg #[],.bool false]) w:=by
 have h:=look_nil (P:=Tryz.prog) (w:=w) true dN Tryz.underlying68 (CW w) (dZ hk)
 simpa using h
theorem SM.put (h:SM base mb n g w) {k:Int×Int} (hk:I2 k) (hn:n<1000000):
    ∃w2,(Instr.mapUpdate 68 (.map (some mb)) (pk k) (.agg #[])).run Tryz.prog w=.ok () w2/\SM base mb (n+1) (upd g k true) w2/\Kee (fun b=>b=mb) w w2/\w2.heap.size=w.heap.size:=by
 obtain⟨D,h1,h2⟩:=h.map
 obtain⟨w2,hrun,hown,ht⟩:=h1.store dN Tryz.underlying68 (by unfold maxLen;omega) (dZ hk) unitElem_mk
 obtain⟨hkk,hsz⟩:=gL ht
 refine⟨w2,hrun,⟨h.lo,_,hown,fun j hj=> ?_⟩,hkk,hsz⟩
 by_cases e:j=k
 ·rw[e,upd_same,has_put_same h1.isMap (dN.key (dZ hk))]
 ·rw[aS _ _ e,has_put_other fun e'=>e (ol hj hk e')]
  exact h2 j hj
theorem SM.drop (h:SM base mb n g w) {k:Int×Int} (hk:I2 k) (ty:TypeId):
    ∃w2,(Builtin.delete_ #[68,151] ty #[.map (some mb),pk k]).run Tryz.prog w=.ok (.tuple #[]) w2/\SM base mb n (upd g k false) w2/\Kee (fun b=>b=mb) w w2/\w2.heap.size=w.heap.size:=by
 obtain⟨D,h1,h2⟩:=h.map
 obtain⟨w2,hrun,hown,ht⟩:=h1.drop dN Tryz.underlying68 (dZ hk) ty
 obtain⟨hkk,hsz⟩:=gL ht
 refine⟨w2,hrun,⟨h.lo,_,hown,fun j hj=> ?_⟩,hkk,hsz⟩
 by_cases e:j=k
 ·rw[e,upd_same,has_del_same]
 ·rw[aS _ _ e,has_del_other fun e'=>e (ol hj hk e')]
  exact h2 j hj
/-! ### rows of numbers -/
def iK (l:List Int):List Value:=l.map (Value.int .i64)
theorem jP (l:List Int) (k:Int):iK (l++ [k])=iK l++ [.int .i64 k]:=by simp[iK]
def NRow (base:Nat) (v:Value) (l:List Int) (w:World):Prop:=w.ownsRow base 3 1 v l.length (iK l)
def IRow (v:Value) (l:List Int) (w:World):Prop:=∃a c,v=.slice a l.length c/\(l=[]∨∃g o,a=some ⟨g,o,none⟩/\g<w.heap.size/\∀(i:Nat) (k:Int),l[i]? =some k->w.cell? ⟨g,o+i,none⟩=some (.int .i64 k))
theorem NRow.row {v:Value} {l:List Int} (h:NRow base v l w):IRow v l w:=by
 have h':=h
 rcases h.2 with⟨rfl,e⟩|⟨g,cap,cur,rfl,_,hh,_⟩
 ·exact⟨none,0,by rw[e],Or.inl (List.eq_nil_of_length_eq_zero e)⟩
 ·refine⟨some ⟨g,0,none⟩,cap,rfl,Or.inr ⟨g,0,rfl,(Array.getElem?_eq_some_iff.1 hh).1,fun i k hk=> ?_⟩⟩
  have c1:=h'.cells (g:=g) rfl i (.int .i64 k) (by simp[iK,hk])
  rw[Addr.add_lit,Nat.zero_add]at c1
  rw[Nat.zero_add]
  exact c1
theorem NRow.nil (base:Nat) (w:World):NRow base (.slice none 0 0) [] w:=⟨rfl,Or.inl ⟨rfl,rfl⟩⟩
theorem NRow.later {v:Value} {l:List Int} {w':World} (h:NRow base v l w) (k:Below w.heap.size w w'):NRow base v l w':=aG h (aj k fun _=>False) fun _ _ h=>h
def lQ (a:Int):Bool:=decide (1<=a) && decide (a<=99)
theorem kF (a:Int) (w:World):Calls Tryz.prog 110 #[.int .i64 a] w fun e w'=>e=.returned (.bool (lQ a))/\w'=w:=by
 go_enter Tryz.func110,Tryz.ntmps110
 by_cases h1:1<=a
 ·go_wp2_with fail
  go_ret
  exact⟨aT (by simp[lQ,h1]),rfl⟩
 ·go_wp2_with fail
  go_ret
  exact⟨aT (by simp[lQ];omega),rfl⟩
theorem ny (x y:Int) (w:World):Calls Tryz.prog 105 #[.int .i64 x,.int .i64 y] w fun e w'=>e=.returned (.agg #[.int .i64 (gW x y).1,.int .i64 (gW x y).2])/\Below w.heap.size w w':=by
 go_enter Tryz.func105,Tryz.ntmps105
 go_wp2_with fail
 all_goals
  exact bodyPost_ret (v:=.agg #[.int .i64 (gW x y).1,.int .i64 (gW x y).2]) (by simp[results,Tryz.results105,go_sem,gW];omega) rfl ⟨rfl,(Below.refl _ _).alloc (Nat.le_refl _) _⟩
theorem iX {base e sz n:Nat} {v:Value} {xs:List Value} {w w5:World} {o:Obj} (h:w.ownsRow base e sz v n xs) (hg:(w.alloc o).grownBy w5 v.ownBlock) (hb:base<=w.heap.size):Below base w w5:=by
 have h0:Below base w (w.alloc o):=(Below.refl _ _).alloc hb _
 refine⟨hg.os.trans h0.os,hg.tape.trans h0.tape,hg.output.trans h0.output,Nat.le_trans h0.size hg.size,fun b hb'=>(hg.block b (by simp;omega) fun e=> ?_).trans (h0.block b hb')⟩
 have:=(h.lt b e.symm).1
 omega
theorem yR {x y:Int} (hx:bR x) (hy:bR y):I2 (gW x y):=by
 rcases fI x y with⟨e,_⟩|⟨e,_⟩<;>rw[e]
 ·exact⟨hx,hy⟩
 ·exact⟨hy,hx⟩
theorem PY (b:Nat) (h:b<=1000):bR (b:Int):=by unfold bR;omega
theorem Kb (g:Int×Int->Bool) (bp:BL) (mo:Option Nat) (x:Int) (w:World) (hbp:bp.b<w.heap.size) (HX:Hid (bR x)) (HC:Hid (w.cell? ⟨bp.b,bp.o,none⟩=some (.map mo)))
    (HL:Hid (∀k,I2 k->∀W,Below w.heap.size w W->(Instr.lookup 68 (.map mo) (pk k) true).run Tryz.prog W=.ok (.tuple #[.agg #[],.bool (g k)]) W)):
    Calls Tryz.prog 104 #[.pointer (some ⟨bp.b,bp.o,none⟩),.int .i64 x] w fun e w'=>∃v,e=.returned v/\Hid (NRow w.heap.size v (o7 g x) w'/\Below w.heap.size w w'):=by
 obtain⟨it,hit,htz0,htz1,htz2⟩:=info_parts Gb
 have HIT:Hid (Tryz.prog.info? 3=some it/\it.zero=some (.int .i64 0)/\it.size=1/\it.bytes=8):=⟨hit,htz0,htz1,htz2⟩
 clear hit htz0 htz1 htz2
 go_enter Tryz.func104,Tryz.ntmps104
 go_wp2_with fail
 go_loopw [5,6] (fun v i wr=>∃(b:Nat),1<=b/\b<=100/\i=.int .i64 b/\(∃a L c,v=.slice a L c/\L<=99/\Hid ((p9 g x (b-1)).length=L/\wr.ownsRow w.heap.size 3 1 (.slice a L c) L (iK (p9 g x (b-1)))/\Below w.heap.size w wr))) (fun _ i _=>100-(intOf i).toNat)
 case atStart=>exact⟨1,by omega,by omega,rfl,none,0,0,rfl,by omega,rfl,⟨rfl,Or.inl ⟨rfl,rfl⟩⟩,Below.refl _ _⟩
 case round=>
  obtain⟨b,hb1,hb2,rfl,a,L,c,rfl,hL,HR⟩:=hrel
  by_cases hb:b<=99
  ·have hb':(b:Int)<=99:=by omega
   have c0:wr.cell? ⟨bp.b,bp.o,none⟩=some (.map mo):=(HR.out.2.2.cell (p:=⟨bp.b,bp.o,none⟩) hbp).trans HC.out
   have HI:Hid (I2 (gW x b)):=yR HX.out (PY b (by omega))
   have HG:Hid (p9 g x b=p9 g x (b-1)++if g (gW x b)then [(b:Int)]else []):=by
    have h:=Io g x (b-1) (by omega)
    have e1:b-1+1=b:=by omega
    have e2:((b-1:Nat):Int)+1=(b:Int):=by omega
    rw[e1,e2]at h
    exact h
   have hl:=fun W hW=>HL.out (gW x b) HI.out W (HR.out.2.2.trans (Below.mono hW HR.out.2.2.size))
   have hpair:=fun W=>ny x b W
   obtain⟨t,ht⟩:∃t,t=g (gW x b):=⟨_,rfl⟩
   rw[<-ht]at hl HG
   have HLN:=hide (show L<=b-1 by have:=BM g x (b-1);have:=HR.out.1;omega)
   unfold pk at hl
   obtain⟨⟨p0,p1⟩,hp⟩:∃p,p=gW x b:=⟨_,rfl⟩
   rw[<-hp]at hl hpair
   have HPR:=hide hpair
   replace HL:=hide hl
   have HCB:Hid (∀W,Below wr.heap.size wr W->W.cell? ⟨bp.b,bp.o,none⟩=some (.map mo)):=fun W hW=>((HR.out.2.2.trans (Below.mono hW HR.out.2.2.size)).cell (p:=⟨bp.b,bp.o,none⟩) hbp).trans HC.out
   have HD0:Hid (Below wr.heap.size wr wr.drew):=(Below.refl _ _).drew
   have HDA:Hid (∀o:Obj,Below wr.heap.size wr (wr.alloc o).drew):=fun o=>((Below.refl _ _).alloc (Nat.le_refl _) o).drew
   clear ht hl hpair HI
   go_wp2_with fail
   go_region_held3 (fun W=>W.cell? ⟨bp.b,bp.o,none⟩=some (.map mo)) (first|(go_keep;done)|exact HCB.out _ HD0.out|exact HCB.out _ (HDA.out _)|exact HCB.out _ (HB2.out.alloc HB2.out.size _)|exact HCB.out _ HB2.out) ((first
    | (go_at_call 105;refine(HPR.out _).mono ?_;rintro e w2 ⟨rfl,hb2⟩;have HB2:=hide (HD0.out.trans (hb2.mono HD0.out.size));have hl2:=HL.out _ HB2.out;have hl3:=HL.out _ (HB2.out.alloc HB2.out.size (.cells #[] 191));clear hb2)
    | (go_at_call 105;refine(HPR.out _).mono ?_;rintro e w2 ⟨rfl,hb2⟩;have HB2:=hide ((HDA.out _).trans (hb2.mono (HDA.out _).size));have hl2:=HL.out _ HB2.out;clear hb2)))
   ·obtain⟨wz,hwz⟩:∃wz,wz=w2.alloc (.cells #[] 191):=⟨_,rfl⟩
    rw[<-hwz]
    have HZ:Hid (Below wr.heap.size wr wz):=by rw[hwz];exact HB2.out.alloc HB2.out.size _
    obtain⟨pz,hpz⟩:∃pz,pz=w2.heap.size:=⟨_,rfl⟩
    rw[<-hpz]
    clear hwz hl3 hpz
    have HB:=hide (HR.out.2.2.trans (HZ.out.mono HR.out.2.2.size))
    have HO:=hide (aG HR.out.2.1 (aj HZ.out fun _=>False) fun _ _ h=>h)
    have HS:=hide HR.out.1
    have HSZ:=hide HB.out.size
    clear HR HB2 HZ HL HPR HCB HD0 HDA hl2 c0
    cases t
    ·go_wp2_with fail
     go_roundw
     case rel=>exact⟨b+1,by omega,by omega,by go_num,a,L,c,rfl,hL,by rw[Nat.add_sub_cancel,HG.out];simpa using HS.out,by rw[Nat.add_sub_cancel,HG.out];simpa using HO.out,HB.out⟩
     case measure=>simp[intOf];omega
    ·go_wp2_with (first
       | (at_builtin;refine wpList_append_lies _ rfl _ _ 94 rfl w.heap.size 3 it _ 1 8 Tryz.underlying94 HIT.out.1 HIT.out.2.1 HIT.out.2.2.1 HIT.out.2.2.2 rfl (by decide) (.slice a L c) L (iK (p9 g x (b-1))) rfl (HO.out.alloc _) ⟨wz.heap.size,0,none⟩ 1 1 [.int .i64 b] rfl rfl (World.news_of_block (cs:= #[.int .i64 b]) (t:=3) (fr:=(0,0)) (heap_alloc_new wz _)) (by simp[Value.oneCell']) (by decide) (by unfold maxLen;omega) (by omega) (by have:=HSZ.out;simp;omega) _ rfl ?_;intro g5 c5 w5 hown5 hgrow5 hat5 hlt5;have HO5:=hide hown5;have HB5:=hide (HB.out.trans (iX HO.out hgrow5 HB.out.size));clear hown5 hgrow5 hat5 hlt5))
     go_roundw
     case rel=>
      refine⟨b+1,by omega,by omega,by go_num,some ⟨g5,0,none⟩,L+1,c5,rfl,by have:=HLN.out;omega, ?_, ?_,HB5.out⟩
      ·rw[Nat.add_sub_cancel,HG.out]
       simpa using HS.out
      ·rw[Nat.add_sub_cancel,HG.out,if_pos rfl,jP]
       exact HO5.out
     case measure=>simp[intOf];omega
   ·obtain⟨wz,hwz⟩:∃wz,wz=w2.alloc (.cells #[] 191):=⟨_,rfl⟩
    rw[<-hwz]
    have HZ:Hid (Below wr.heap.size wr wz):=by rw[hwz];exact HB2.out.alloc HB2.out.size _
    obtain⟨pz,hpz⟩:∃pz,pz=w2.heap.size:=⟨_,rfl⟩
    rw[<-hpz]
    clear hwz hpz
    have HB:=hide (HR.out.2.2.trans (HZ.out.mono HR.out.2.2.size))
    have HO:=hide (aG HR.out.2.1 (aj HZ.out fun _=>False) fun _ _ h=>h)
    have HS:=hide HR.out.1
    have HSZ:=hide HB.out.size
    clear HR HB2 HZ HL HPR HCB HD0 HDA hl2 hl3 c0
    cases t
    ·go_wp2_with fail
     go_roundw
     case rel=>exact⟨b+1,by omega,by omega,by go_num,a,L,c,rfl,hL,by rw[Nat.add_sub_cancel,HG.out];simpa using HS.out,by rw[Nat.add_sub_cancel,HG.out];simpa using HO.out,HB.out⟩
     case measure=>simp[intOf];omega
    ·go_wp2_with (first
       | (at_builtin;refine wpList_append_lies _ rfl _ _ 94 rfl w.heap.size 3 it _ 1 8 Tryz.underlying94 HIT.out.1 HIT.out.2.1 HIT.out.2.2.1 HIT.out.2.2.2 rfl (by decide) (.slice a L c) L (iK (p9 g x (b-1))) rfl (HO.out.alloc _) ⟨wz.heap.size,0,none⟩ 1 1 [.int .i64 b] rfl rfl (World.news_of_block (cs:= #[.int .i64 b]) (t:=3) (fr:=(0,0)) (heap_alloc_new wz _)) (by simp[Value.oneCell']) (by decide) (by unfold maxLen;omega) (by omega) (by have:=HSZ.out;simp;omega) _ rfl ?_;intro g5 c5 w5 hown5 hgrow5 hat5 hlt5;have HO5:=hide hown5;have HB5:=hide (HB.out.trans (iX HO.out hgrow5 HB.out.size));clear hown5 hgrow5 hat5 hlt5))
     go_roundw
     case rel=>
      refine⟨b+1,by omega,by omega,by go_num,some ⟨g5,0,none⟩,L+1,c5,rfl,by have:=HLN.out;omega, ?_, ?_,HB5.out⟩
      ·rw[Nat.add_sub_cancel,HG.out]
       simpa using HS.out
      ·rw[Nat.add_sub_cancel,HG.out,if_pos rfl,jP]
       exact HO5.out
     case measure=>simp[intOf];omega
   ·obtain⟨wz,hwz⟩:∃wz,wz=w2:=⟨_,rfl⟩
    subst hwz
    have HZ:=hide HB2.out
    have HB:=hide (HR.out.2.2.trans (HZ.out.mono HR.out.2.2.size))
    have HO:=hide (aG HR.out.2.1 (aj HZ.out fun _=>False) fun _ _ h=>h)
    have HS:=hide HR.out.1
    have HSZ:=hide HB.out.size
    clear HR HB2 HZ HL HPR HCB HD0 HDA hl2 c0
    cases t
    ·go_wp2_with fail
     go_roundw
     case rel=>exact⟨b+1,by omega,by omega,by go_num,a,L,c,rfl,hL,by rw[Nat.add_sub_cancel,HG.out];simpa using HS.out,by rw[Nat.add_sub_cancel,HG.out];simpa using HO.out,HB.out⟩
     case measure=>simp[intOf];omega
    ·go_wp2_with (first
       | (at_builtin;refine wpList_append_lies _ rfl _ _ 94 rfl w.heap.size 3 it _ 1 8 Tryz.underlying94 HIT.out.1 HIT.out.2.1 HIT.out.2.2.1 HIT.out.2.2.2 rfl (by decide) (.slice a L c) L (iK (p9 g x (b-1))) rfl (HO.out.alloc _) ⟨wz.heap.size,0,none⟩ 1 1 [.int .i64 b] rfl rfl (World.news_of_block (cs:= #[.int .i64 b]) (t:=3) (fr:=(0,0)) (heap_alloc_new wz _)) (by simp[Value.oneCell']) (by decide) (by unfold maxLen;omega) (by omega) (by have:=HSZ.out;simp;omega) _ rfl ?_;intro g5 c5 w5 hown5 hgrow5 hat5 hlt5;have HO5:=hide hown5;have HB5:=hide (HB.out.trans (iX HO.out hgrow5 HB.out.size));clear hown5 hgrow5 hat5 hlt5))
     go_roundw
     case rel=>
      refine⟨b+1,by omega,by omega,by go_num,some ⟨g5,0,none⟩,L+1,c5,rfl,by have:=HLN.out;omega, ?_, ?_,HB5.out⟩
      ·rw[Nat.add_sub_cancel,HG.out]
       simpa using HS.out
      ·rw[Nat.add_sub_cancel,HG.out,if_pos rfl,jP]
       exact HO5.out
     case measure=>simp[intOf];omega
  ·obtain rfl:b=100:=by omega
   have hR:=HR.out
   go_wp2_with fail
   go_ret
   refine⟨_,rfl, ?_,hR.2.2⟩
   have e:=Mk g x
   rw[show 100-1=99 from rfl]at hR
   rw[<-e]
   unfold NRow
   rw[hR.1]
   exact hR.2.1
def BdAt (base:Nat) (bp:BL) (mo:Option Nat) (n:Nat) (g:Int×Int->Bool) (w:World):Prop:=
 base<=bp.b/\BxM bp mo w/\((mo=none/\g=fun _=>false)∨∃mb,mo=some mb/\SM base mb n g w)
def Nc (bp:BL) (mo:Option Nat) (b:Nat):Prop:=b=bp.b∨mo=some b
variable {base n:Nat} {bp:BL} {mo:Option Nat} {g:Int×Int->Bool} {w:World}
theorem BdAt.lt (h:BdAt base bp mo n g w) (b:Nat) (hb:Nc bp mo b):base<=b/\b<w.heap.size:=by
 rcases hb with rfl|hb
 ·exact⟨h.1,h.2.1.lt⟩
 ·rcases h.2.2 with⟨e,_⟩|⟨mb,e,hs⟩
  ·rw[e]at hb
   cases hb
  ·rw[e]at hb
   injection hb with hb
   subst hb
   exact hs.lt
theorem BdAt.kee {S:Nat->Prop} {w':World} (h:BdAt base bp mo n g w) (k:Kee S w w') (hS:∀b,Nc bp mo b->¬S b):BdAt base bp mo n g w':=by
 refine⟨h.1,h.2.1.kept (k.block bp.b (h.lt bp.b (Or.inl rfl)).2 (hS bp.b (Or.inl rfl))), ?_⟩
 rcases h.2.2 with e|⟨mb,e,hs⟩
 ·exact Or.inl e
 ·exact Or.inr ⟨mb,e,hs.kee k (hS mb (Or.inr e))⟩
theorem BdAt.later {w':World} (h:BdAt base bp mo n g w) (k:Below w.heap.size w w'):BdAt base bp mo n g w':=h.kee (aj k fun _=>False) fun _ _ h=>h
theorem BdAt.cell (h:BdAt base bp mo n g w):w.cell? ⟨bp.b,bp.o,none⟩=some (.map mo)/\w.frozen? ⟨bp.b,bp.o,none⟩=false:=⟨h.2.1.cell.1,h.2.1.cell.2 _⟩
theorem BdAt.look (h:BdAt base bp mo n g w) {k:Int×Int} (hk:I2 k):(Instr.lookup 68 (.map mo) (pk k) true).run Tryz.prog w=.ok (.tuple #[.agg #[],.bool (g k)]) w:=by
 rcases h.2.2 with⟨rfl,rfl⟩|⟨mb,rfl,hs⟩
 ·exact EJ w hk
 ·exact hs.look hk
theorem BdAt.ne {mb:Nat} (h:BdAt base bp (some mb) n g w):bp.b≠mb:=by
 intro e
 rcases h.2.2 with⟨e',_⟩|⟨mb',e',hs⟩
 ·cases e'
 ·injection e' with e'
  subst e' e
  obtain⟨D,⟨es,clock,hb,_⟩,_⟩:=hs.map
  rw[h.2.1.2]at hb
  cases hb
theorem MW (h:BdAt base bp mo n g w) {x:Int} (hx:bR x):Calls Tryz.prog 104 #[.pointer (some ⟨bp.b,bp.o,none⟩),.int .i64 x] w fun e w'=>∃v,e=.returned v/\Hid (NRow w.heap.size v (o7 g x) w'/\Below w.heap.size w w'):=
 Kb g bp mo x w (h.lt bp.b (Or.inl rfl)).2 hx h.cell.1 fun _ hk _ hW=>(h.later hW).look hk
theorem M9 (mb:Nat) (W:World):(binOp .eql 68 (.map (some mb)) (.map none)).run Tryz.prog W=.ok (.bool false) W:=by kernel_rfl
theorem NF (W:World):(binOp .eql 68 (.map none) (.map none)).run Tryz.prog W=.ok (.bool true) W:=by kernel_rfl
theorem J5 (bp:BL) (mb:Nat) (x y:Int) (w:World) (G:World->Prop) (hbp:bp.b<w.heap.size) (HC:Hid (w.cell? ⟨bp.b,bp.o,none⟩=some (.map (some mb)))) (HV:Hid (lQ x=true/\lQ y=true)) (hne:x≠y)
    (HP:Hid (∀W,Below w.heap.size w W->∃w2,(Instr.mapUpdate 68 (.map (some mb)) (.agg #[.int .i64 (gW x y).1,.int .i64 (gW x y).2]) (.agg #[])).run Tryz.prog W=.ok () w2/\w2.cell? ⟨bp.b,bp.o,none⟩=some (.map (some mb))/\Hid (G w2))):
    Calls Tryz.prog 88 #[.pointer (some ⟨bp.b,bp.o,none⟩),.int .i64 x,.int .i64 y] w fun e w'=>e=.returned (.int .i64 0)/\G w':=by
 have c0:=HC.out
 have h1:=fun W=>kF x W
 have h2:=fun W=>kF y W
 have hq:=M9 mb
 rw[HV.out.1]at h1
 rw[HV.out.2]at h2
 have H1:=hide h1
 have H2:=hide h2
 clear h1 h2
 have hp:=fun W=>ny x y W
 obtain⟨⟨p0,p1⟩,hpe⟩:∃p,p=gW x y:=⟨_,rfl⟩
 rw[<-hpe]at hp HP
 have HPR:=hide hp
 clear hp
 have HCB:Hid (∀W,Below w.heap.size w W->W.cell? ⟨bp.b,bp.o,none⟩=some (.map (some mb))):=fun W hW=>(hW.cell (p:=⟨bp.b,bp.o,none⟩) hbp).trans HC.out
 have HD0:Hid (Below w.heap.size w w.drew):=(Below.refl _ _).drew
 go_enter Tryz.func88,Tryz.ntmps88
 go_wp2_with fail
 refine(H1.out _).mono ?_
 rintro e w1 ⟨rfl,rfl⟩
 go_wp2_with fail
 refine(H2.out _).mono ?_
 rintro e w2 ⟨rfl,rfl⟩
 go_wp2_with fail
 go_region_held3 (fun W=>W.cell? ⟨bp.b,bp.o,none⟩=some (.map (some mb))) (first|(go_keep;done)|exact HCB.out _ HD0.out|exact HCB.out _ HB3.out|exact HC4.out) ((first
       | (go_at_call 105;refine(HPR.out _).mono ?_;rintro e w3 ⟨rfl,hb3⟩;have HB3:=hide (HD0.out.trans (hb3.mono HD0.out.size));obtain⟨w4,hu4,hc4,HG4⟩:=HP.out _ HB3.out;have HC4:=hide hc4;clear hb3)))
 go_wp2_with fail
 go_ret
 exact⟨rfl,HG4.out⟩
theorem G6 (bp:BL) (x y:Int) (w w0:World) (G:World->Prop) (hbp:bp.b<w.heap.size) (HC:Hid (w.cell? ⟨bp.b,bp.o,none⟩=some (.map none)/\w.frozen? ⟨bp.b,bp.o,none⟩=false)) (HV:Hid (lQ x=true/\lQ y=true)) (hne:x≠y)
    (hw0:w0=(w.setCell ⟨bp.b,bp.o,none⟩ (.map (some w.heap.size))).alloc (.map #[] 0)) (HC0:Hid (w0.cell? ⟨bp.b,bp.o,none⟩=some (.map (some w.heap.size)))) (hb0:bp.b<w0.heap.size)
    (HP:Hid (∀W,Below w0.heap.size w0 W->∃w2,(Instr.mapUpdate 68 (.map (some w.heap.size)) (.agg #[.int .i64 (gW x y).1,.int .i64 (gW x y).2]) (.agg #[])).run Tryz.prog W=.ok () w2/\w2.cell? ⟨bp.b,bp.o,none⟩=some (.map (some w.heap.size))/\Hid (G w2))):
    Calls Tryz.prog 88 #[.pointer (some ⟨bp.b,bp.o,none⟩),.int .i64 x,.int .i64 y] w fun e w'=>e=.returned (.int .i64 0)/\G w':=by
 obtain⟨c0,f0⟩:=HC.out
 have h1:=fun W=>kF x W
 have h2:=fun W=>kF y W
 have hq:=NF
 have hmm:= @run_makeMap Tryz.prog
 rw[HV.out.1]at h1
 rw[HV.out.2]at h2
 have H1:=hide h1
 have H2:=hide h2
 clear h1 h2
 have hp:=fun W=>ny x y W
 obtain⟨⟨p0,p1⟩,hpe⟩:∃p,p=gW x y:=⟨_,rfl⟩
 rw[<-hpe]at hp HP
 have HPR:=hide hp
 have HW0:=hide hw0
 clear hp hw0
 have HCB:Hid (∀W,Below w0.heap.size w0 W->W.cell? ⟨bp.b,bp.o,none⟩=some (.map (some w.heap.size))):=fun W hW=>(hW.cell (p:=⟨bp.b,bp.o,none⟩) hb0).trans HC0.out
 have HD0:Hid (Below w0.heap.size w0 w0.drew):=(Below.refl _ _).drew
 go_enter Tryz.func88,Tryz.ntmps88
 go_wp2_with fail
 refine(H1.out _).mono ?_
 rintro e w1 ⟨rfl,rfl⟩
 go_wp2_with fail
 refine(H2.out _).mono ?_
 rintro e w2 ⟨rfl,rfl⟩
 go_wp2_with fail
 rw[<-HW0.out]
 have d0:=HC0.out
 go_region_held3 (fun W=>W.cell? ⟨bp.b,bp.o,none⟩=some (.map (some w2.heap.size))) (first|(go_keep;done)|exact HCB.out _ HD0.out|exact HCB.out _ HB3.out|exact HC4.out) ((first
       | (go_at_call 105;refine(HPR.out _).mono ?_;rintro e w3 ⟨rfl,hb3⟩;have HB3:=hide (HD0.out.trans (hb3.mono HD0.out.size));obtain⟨w4,hu4,hc4,HG4⟩:=HP.out _ HB3.out;have HC4:=hide hc4;clear hb3)))
 go_wp2_with fail
 go_ret
 exact⟨rfl,HG4.out⟩
theorem GA (bp:BL) (x y:Int) (w:World) (hv:lQ x=false∨lQ y=false∨x=y):
    Calls Tryz.prog 88 #[.pointer (some ⟨bp.b,bp.o,none⟩),.int .i64 x,.int .i64 y] w fun e w'=>e=.returned (.int .i64 1)/\w'=w:=by
 have h1:=fun W=>kF x W
 have h2:=fun W=>kF y W
 obtain⟨a,ha⟩:∃a,a=lQ x:=⟨_,rfl⟩
 obtain⟨b,hb⟩:∃b,b=lQ y:=⟨_,rfl⟩
 rw[<-ha]at h1 hv
 rw[<-hb]at h2 hv
 have H1:=hide h1
 have H2:=hide h2
 have HV:=hide hv
 clear h1 h2 ha hb hv
 go_enter Tryz.func88,Tryz.ntmps88
 go_wp2_with fail
 refine(H1.out _).mono ?_
 rintro e w1 ⟨rfl,rfl⟩
 cases a
 ·go_wp2_with fail
  go_ret
  exact⟨rfl,rfl⟩
 ·go_wp2_with fail
  refine(H2.out _).mono ?_
  rintro e w2 ⟨rfl,rfl⟩
  cases b
  ·go_wp2_with fail
   go_ret
   exact⟨rfl,rfl⟩
  ·have he:x=y:=by simpa using HV.out
   have HE:=hide he
   subst he
   go_wp2_with fail
   go_ret
   exact⟨rfl,rfl⟩
variable {base n:Nat} {bp:BL} {mo:Option Nat} {g:Int×Int->Bool} {w:World}
def uY (x y:Int):Int:=if lQ x=true/\lQ y=true/\x≠y then 0 else 1
def O5 (base:Nat) (bp:BL) (mo:Option Nat) (n:Nat) (g:Int×Int->Bool) (w w':World):Prop:=
 ∃mo',BdAt base bp mo' n g w'/\Kee (Nc bp mo) w w'/\∀b,Nc bp mo' b->Nc bp mo b∨w.heap.size<=b
theorem BdAt.mono (h:BdAt base bp mo n g w) {m:Nat} (hm:n<=m):BdAt base bp mo m g w:=by
 refine⟨h.1,h.2.1, ?_⟩
 rcases h.2.2 with e|⟨mb,e,hs⟩
 ·exact Or.inl e
 ·exact Or.inr ⟨mb,e,hs.mono hm⟩
theorem Ij (h:BdAt base bp mo n g w) {x y:Int} (hx:bR x) (hy:bR y) (hn:n<1000000):
    Calls Tryz.prog 88 #[.pointer (some ⟨bp.b,bp.o,none⟩),.int .i64 x,.int .i64 y] w fun e w'=>e=.returned (.int .i64 (uY x y))/\Hid (O5 base bp mo (n+1) (if uY x y=0 then upd g (gW x y) true else g) w w'):=by
 have hbp:=h.lt bp.b (Or.inl rfl)
 by_cases hv:lQ x=true/\lQ y=true/\x≠y
 ·have e0:uY x y=0:=if_pos hv
  rw[e0,if_pos rfl]
  rcases h.2.2 with⟨rfl,rfl⟩|⟨mb,rfl,hs⟩
  ·obtain⟨w0,hw0⟩:∃w0,w0=(w.setCell ⟨bp.b,bp.o,none⟩ (.map (some w.heap.size))).alloc (.map #[] 0):=⟨_,rfl⟩
   have k1:Kee (fun b=>b=bp.b) w (w.setCell ⟨bp.b,bp.o,none⟩ (.map (some w.heap.size))):=aP w bp.b bp.o _
   have hs1:(w.setCell ⟨bp.b,bp.o,none⟩ (.map (some w.heap.size))).heap.size=w.heap.size:=by simp[World.setCell]
   have k0:Kee (fun b=>b=bp.b) w w0:=by
    rw[hw0]
    exact Kee.trans k1 (aj ((Below.refl _ _).alloc (Nat.le_refl _) _) fun _=>False) fun _ _ h=>h.elim
   have hb0:BxM bp (some w.heap.size) w0:=by
    rw[hw0]
    exact(h.2.1.set).kept (((Below.refl _ _).alloc (Nat.le_refl _) _).block bp.b (by rw[hs1];exact hbp.2))
   have hz0:w0.heap.size=w.heap.size+1:=by rw[hw0,World.size_alloc,hs1]
   have hS0:SM base w.heap.size n (fun _=>false) w0:=by
    have hh:=SM.new (w.setCell ⟨bp.b,bp.o,none⟩ (.map (some w.heap.size)))
    rw[hs1,<-hw0]at hh
    exact(hh.rebase (by omega)).mono (Nat.zero_le _)
   refine(G6 bp x y w w0 (fun w'=>O5 base bp none (n+1) (upd (fun _=>false) (gW x y) true) w w') hbp.2 h.cell ⟨hv.1,hv.2.1⟩ hv.2.2 hw0 hb0.cell.1 (by omega) ?_).mono fun e w' h=>⟨h.1,h.2⟩
   intro W hW
   obtain⟨w2,hr,h2,hk2,hs2⟩:=(hS0.later hW).put (yR hx hy) hn
   have hbw:BxM bp (some w.heap.size) w2:=(hb0.kept (hW.block bp.b (by omega))).kept (hk2.block bp.b (by have:=hW.size;omega) (by omega))
   refine⟨w2,hr,hbw.cell.1,some w.heap.size,⟨h.1,hbw,Or.inr ⟨_,rfl,h2⟩⟩, ?_,fun b hb=> ?_⟩
   ·refine Kee.trans (Kee.trans (k0.mono fun b _ e=>Or.inl e) (aj hW fun _=>False) fun _ _ h=>h.elim) hk2 fun b hb e=> ?_
    omega
   ·rcases hb with hb|hb
    ·exact Or.inl (Or.inl hb)
    ·injection hb with hb
     exact Or.inr (by omega)
  ·refine(J5 bp mb x y w (fun w'=>O5 base bp (some mb) (n+1) (upd g (gW x y) true) w w') hbp.2 h.cell.1 ⟨hv.1,hv.2.1⟩ hv.2.2 ?_).mono fun e w' h=>⟨h.1,h.2⟩
   intro W hW
   obtain⟨w2,hr,h2,hk2,hs2⟩:=(hs.later hW).put (yR hx hy) hn
   have hbw:BxM bp (some mb) w2:=(h.2.1.kept (hW.block bp.b (by omega))).kept (hk2.block bp.b (by have:=hW.size;omega) h.ne)
   refine⟨w2,hr,hbw.cell.1,some mb,⟨h.1,hbw,Or.inr ⟨_,rfl,h2⟩⟩, ?_,fun b hb=>Or.inl hb⟩
   exact Kee.trans (aj hW _) hk2 fun b _ e=>Or.inr (by rw[e])
 ·have e0:uY x y=1:=if_neg hv
  rw[e0,if_neg (by decide)]
  refine(GA bp x y w ?_).mono ?_
  ·cases h1:lQ x
   ·exact Or.inl rfl
   ·cases h2:lQ y
    ·exact Or.inr (Or.inl rfl)
    ·refine Or.inr (Or.inr ?_)
     by_cases e:x=y
     ·exact e
     ·exact absurd ⟨h1,h2,e⟩ hv
  ·rintro e w' ⟨rfl,rfl⟩
   exact⟨rfl,mo,h.mono (Nat.le_succ n),Kee.refl _ _,fun b hb=>Or.inl hb⟩
theorem Eo (a:Option Addr) (c:Nat) (l:List Int) (L:Nat) (y:Int) (w:World) (hl:L<=1000000) (HL:Hid (l.length=L)) (HC:Hid (∀(i:Nat) (k:Int),l[i]? =some k->∃g o,a=some ⟨g,o,none⟩/\w.cell? ⟨g,o+i,none⟩=some (.int .i64 k))):
    Calls Tryz.prog 106 #[.slice a L c,.int .i64 y] w fun e w'=>∃r:Int,e=.returned (.int .i64 r)/\w'=w/\Hid (decide (0<=r)=l.contains y):=by
 go_enter Tryz.func106,Tryz.ntmps106
 go_wp2_with fail
 go_loopw [8] (fun i wr=>∃j:Nat,j<=L/\i=.int .i64 j/\wr=w/\Hid (y∉l.take j)) (fun i _=>L-(intOf i).toNat)
 case atStart=>exact⟨0,Nat.zero_le _,rfl,rfl,by simp[Hid]⟩
 case round=>
  obtain⟨j,hj,rfl,rfl,HN⟩:=hrel
  by_cases hjl:j<L
  ·obtain⟨k,hk⟩:∃k,l[j]? =some k:=⟨l[j]'(by rw[HL.out];exact hjl),List.getElem?_eq_getElem _⟩
   obtain⟨g,o,rfl,hc⟩:=HC.out j k hk
   have HK:=hide hk
   clear hk
   have j1:(0:Int)<=(j:Int):=by omega
   have j2:(j:Int)<(L:Int):=by omega
   by_cases hky:y=k
   ·have HE:Hid (l.contains y=true):=by
      rw[hky]
      exact List.contains_iff_mem.2 (List.mem_of_getElem? HK.out)
    subst hky
    go_wp2_with fail
    go_ret
    exact⟨(j:Int),rfl,rfl,by rw[HE.out];simp[Hid]⟩
   ·have HE:Hid (y∉l.take (j+1)):=by
      rw[List.take_add_one,HK.out]
      intro h
      rcases List.mem_append.1 h with h|h
      ·exact HN.out h
      ·exact hky (by simpa using h)
    have hky':¬k=y:=fun e=>hky e.symm
    go_wp2_with fail
    go_roundw
    case rel=>exact⟨j+1,by omega,by go_num,trivial,HE.out⟩
    case measure=>simp[intOf];omega
  ·obtain rfl:j=L:=by omega
   have HE:Hid (l.contains y=false):=by
    have h:=HN.out
    rw[List.take_of_length_le (by rw[HL.out];exact Nat.le_refl _)]at h
    exact(show l.contains y=false by simpa using h)
   go_wp2_with fail
   go_ret
   exact⟨-1,rfl,rfl,by rw[HE.out];simp[Hid]⟩
theorem IRow.cells {v:Value} {l:List Int} (h:IRow v l w):∃a c,v=.slice a l.length c/\∀(i:Nat) (k:Int),l[i]? =some k->∃g o,a=some ⟨g,o,none⟩/\w.cell? ⟨g,o+i,none⟩=some (.int .i64 k):=by
 obtain⟨a,c,e,h⟩:=h
 refine⟨a,c,e,fun i k hk=> ?_⟩
 rcases h with rfl|⟨g,o,e,_,h⟩
 ·simp at hk
 ·exact⟨g,o,e,h i k hk⟩
theorem uX (v:Value) (y:Int) (t:Bool) (w:World) (HI:Hid (Calls Tryz.prog 106 #[v,.int .i64 y] w fun e w'=>∃r:Int,e=.returned (.int .i64 r)/\w'=w/\Hid (decide (0<=r)=t))):
    Calls Tryz.prog 86 #[v,.int .i64 y] w fun e w'=>e=.returned (.bool t)/\w'=w:=by
 go_enter Tryz.func86,Tryz.ntmps86
 go_wp2_with fail
 refine HI.out.mono ?_
 rintro e w1 ⟨r,rfl,rfl,HR⟩
 go_wp2_with fail
 go_ret
 exact⟨aT (by rw[<-HR.out]),rfl⟩
theorem xk {v:Value} {l:List Int} (h:IRow v l w) (hl:l.length<=1000000) (y:Int):Calls Tryz.prog 86 #[v,.int .i64 y] w fun e w'=>e=.returned (.bool (l.contains y))/\w'=w:=by
 obtain⟨a,c,e,hc⟩:=h.cells
 rw[e]
 exact uX _ y _ w (Eo a c l l.length y w hl rfl hc)
theorem Dt (l:List Int) (L:Nat) (bp:BL) (mo:Option Nat) (x:Int) (w:World) (R:Option Addr->Nat->Nat->World->Prop) (hL:L<=99) (HL:Hid (l.length=L))
    (HO:Hid (Calls Tryz.prog 104 #[.pointer (some ⟨bp.b,bp.o,none⟩),.int .i64 x] w fun e w'=>∃a c,e=.returned (.slice a L c)/\Hid (R a c 0 w')))
    (HR:Hid (∀a c j W,R a c j W->W.cell? ⟨bp.b,bp.o,none⟩=some (.map mo)/\∀(i:Nat) (k:Int),l[i]? =some k->∃g o,a=some ⟨g,o,none⟩/\W.cell? ⟨g,o+i,none⟩=some (.int .i64 k)))
    (HB:Hid (∀a c j W W',R a c j W->Below W.heap.size W W'->R a c j W'))
    (HD:Hid (∀a c j k W,R a c j W->l[j]? =some k->∃W',(∀ty,(Builtin.delete_ #[68,151] ty #[.map mo,.agg #[.int .i64 (gW x k).1,.int .i64 (gW x k).2]]).run Tryz.prog W=.ok (.tuple #[]) W')/\R a c (j+1) W')):
    Calls Tryz.prog 85 #[.pointer (some ⟨bp.b,bp.o,none⟩),.int .i64 x] w fun e w'=>∃a c,e=.returned (.slice a L c)/\Hid (R a c L w'):=by
 go_enter Tryz.func85,Tryz.ntmps85
 go_wp2_with fail
 refine HO.out.mono ?_
 rintro e w1 ⟨a,c,rfl,H0⟩
 go_wp2_with fail
 go_loopw [13] (fun i wr=>∃j:Nat,j<=L/\i=.int .i64 j/\Hid (R a c j wr)) (fun i _=>L-(intOf i).toNat)
 case atStart=>exact⟨0,Nat.zero_le _,rfl,H0.out⟩
 case round=>
  obtain⟨j,hj,rfl,HJ⟩:=hrel
  by_cases hjl:j<L
  ·obtain⟨k,hk⟩:∃k,l[j]? =some k:=⟨l[j]'(by rw[HL.out];exact hjl),List.getElem?_eq_getElem _⟩
   obtain⟨c0,hr⟩:=HR.out a c j wr HJ.out
   obtain⟨g,o,rfl,c1⟩:=hr j k hk
   have HK:=hide hk
   clear hk hr
   have j1:(0:Int)<=(j:Int):=by omega
   have j2:(j:Int)<(L:Int):=by omega
   have HPR:=hide (fun W=>ny x k W)
   have HDK:=hide (fun W (h:R (some ⟨g,o,none⟩) c j W)=>HD.out _ _ _ k W h HK.out)
   obtain⟨⟨p0,p1⟩,hpe⟩:∃p,p=gW x k:=⟨_,rfl⟩
   rw[<-hpe]at HPR HDK
   clear hpe
   have HD0:Hid (R (some ⟨g,o,none⟩) c j wr.drew):=HB.out _ _ _ _ _ HJ.out (Below.refl _ _).drew
   have d0:=(HR.out _ c j _ HD0.out).1
   go_wp2_with fail
   go_region_held3 (fun W=>W.cell? ⟨bp.b,bp.o,none⟩=some (.map mo)) (first|(go_keep;done)|exact(HR.out _ _ _ _ HB3.out).1|exact(HR.out _ _ _ _ HG4.out).1) ((first
    | (go_at_call 105;refine(HPR.out _).mono ?_;rintro e w3 ⟨rfl,hb3⟩;have HB3:=hide (HB.out _ _ _ _ _ HD0.out hb3);obtain⟨w4,hu4,hg4⟩:=HDK.out _ HB3.out;have HG4:=hide hg4;clear hb3 hg4)))
   go_wp2_with fail
   go_roundw
   case rel=>exact⟨j+1,by omega,by go_num,HG4.out⟩
   case measure=>simp[intOf];omega
  ·obtain rfl:j=L:=by omega
   go_wp2_with fail
   go_ret
   exact⟨a,c,rfl,HJ.out⟩
variable {base n:Nat} {bp:BL} {mo:Option Nat} {g:Int×Int->Bool} {w:World}
theorem BdAt.drop (h:BdAt base bp mo n g w) {k:Int×Int} (hk:I2 k) (hg:mo≠none):
    ∃w2,(∀ty,(Builtin.delete_ #[68,151] ty #[.map mo,pk k]).run Tryz.prog w=.ok (.tuple #[]) w2)/\BdAt base bp mo n (upd g k false) w2/\Kee (fun b=>mo=some b) w w2/\w2.heap.size=w.heap.size:=by
 have hne:=fun mb (e:mo=some mb)=>(show BdAt base bp (some mb) n g w from e▸h).ne
 rcases h.2.2 with⟨e,_⟩|⟨mb,rfl,hs⟩
 ·exact absurd e hg
 ·obtain⟨w2,hr,h2,hk2,hs2⟩:=hs.drop hk 0
  refine⟨w2,fun ty=>hr,⟨h.1,h.2.1.kept (hk2.block bp.b (h.lt bp.b (Or.inl rfl)).2 (hne mb rfl)),Or.inr ⟨mb,rfl,h2⟩⟩,hk2.mono fun b _ e=>by rw[e],hs2⟩
theorem BdAt.some (h:BdAt base bp mo n g w) {k:Int×Int} (hk:g k=true):mo≠none:=by
 rcases h.2.2 with⟨_,e⟩|⟨mb,e,_⟩
 ·rw[e]at hk
  cases hk
 ·rw[e]
  simp
theorem ru (h:BdAt base bp mo n g w) (hg:OKg g) {x:Int} (hx:bR x):Calls Tryz.prog 85 #[.pointer (some ⟨bp.b,bp.o,none⟩),.int .i64 x] w fun e w'=>∃v,e=.returned v/\Hid (NRow w.heap.size v (o7 g x) w'/\BdAt base bp mo n (wo g [x]) w'/\Kee (fun b=>mo=some b) w w'):=by
 have hmo:∀b,mo=some b->b<w.heap.size:=fun b e=>(h.lt b (Or.inr e)).2
 have hd:∀(a:Option Addr) (c j:Nat) (k:Int) (W:World),(NRow w.heap.size (.slice a (o7 g x).length c) (o7 g x) W/\BdAt base bp mo n (tQ g x ((o7 g x).take j)) W/\Kee (fun b=>mo=some b) w W)->(o7 g x)[j]? =some k->∃W',(∀ty,(Builtin.delete_ #[68,151] ty #[.map mo,.agg #[.int .i64 (gW x k).1,.int .i64 (gW x k).2]]).run Tryz.prog W=.ok (.tuple #[]) W')/\(NRow w.heap.size (.slice a (o7 g x).length c) (o7 g x) W'/\BdAt base bp mo n (tQ g x ((o7 g x).take (j+1))) W'/\Kee (fun b=>mo=some b) w W'):=by
  rintro a c j k W ⟨h1,h2,h3⟩ hk
  have hm:=gX.1 (List.mem_of_getElem? hk)
  have hI:I2 (gW x k):=yR hx (by unfold bR;omega)
  have hgk:tQ g x ((o7 g x).take j) (gW x k)=true:=by
   refine CF.2 ⟨hm.2,fun y hy e=> ?_⟩
   rcases NU.1 e with⟨_,e⟩|⟨e1,e2⟩
   ·exact sO (ni g x) hk (e▸hy)
   ·exact absurd (List.mem_of_getElem? hk) (by rw[e2];exact Dh hg x)
  obtain⟨w2,hr,hb,hkk,hs⟩:=h2.drop hI (h2.some hgk)
  refine⟨w2,hr,aG h1 hkk fun b hb e=> ?_, ?_,Kee.trans h3 hkk fun b _ e=>e⟩
  ·have:=(h1.lt b hb).1
   have:=hmo b e
   omega
  ·rw[List.take_add_one,hk]
   rw[show (some k).toList=[k]from rfl,Ht]
   exact hb
 refine(Dt (o7 g x) (o7 g x).length bp mo x w (fun a c j W=>NRow w.heap.size (.slice a (o7 g x).length c) (o7 g x) W/\BdAt base bp mo n (tQ g x ((o7 g x).take j)) W/\Kee (fun b=>mo=some b) w W) (vJ g x) rfl ?_ ?_ ?_ hd).mono ?_
 ·refine(MW h hx).mono ?_
  rintro e w' ⟨v,rfl,HV⟩
  obtain⟨a,c,e,_⟩:=HV.out.1.row
  subst e
  exact⟨a,c,rfl,HV.out.1,h.later HV.out.2,aj HV.out.2 _⟩
 ·rintro a c j W ⟨h1,h2,_⟩
  refine⟨h2.cell.1,fun i k hk=> ?_⟩
  obtain⟨a',c',e,hc⟩:=h1.row.cells
  injection e with e1 e2 e3
  subst e1
  exact hc i k hk
 ·rintro a c j W W' ⟨h1,h2,h3⟩ hb
  exact⟨h1.later hb,h2.later hb,Kee.trans h3 (aj hb fun _=>False) fun _ _ h=>h.elim⟩
 ·rintro e w' ⟨a,c,rfl,HR⟩
  refine⟨_,rfl,HR.out.1, ?_,HR.out.2.2⟩
  have h2:=HR.out.2.1
  rw[List.take_of_length_le (Nat.le_refl _),NG hg]at h2
  exact h2
def ed (g:Int×Int->Bool) (x:Int) (i:Nat) (l:List Int) (j:Nat):List Int:=bO g x i++yQ (bO g x i) (l.take j)
theorem oL {g:Int×Int->Bool} {x:Int} {i:Nat} {l:List Int} (hl:l.Nodup) {j:Nat} {y:Int} (hy:l[j]? =some y):ed g x i l (j+1)=ed g x i l j++if (ed g x i l j).contains y then []else [y]:=by
 unfold ed
 rw[List.take_add_one,hy]
 rw[show (some y).toList=[y]from rfl,Jn _ _ _ (sO hl hy),List.append_assoc]
theorem xR {g:Int×Int->Bool} {x:Int} {i:Nat} {y:Int} (hy:(bO g x i)[i]? =some y):ed g x i (o7 (wo g (x::(bO g x i).take i)) y) (o7 (wo g (x::(bO g x i).take i)) y).length=bO g x (i+1):=by
 rw[bO,hy]
 unfold ed
 rw[List.take_of_length_le (Nat.le_refl _)]
theorem KU {g:Int×Int->Bool} (hg:OKg g) {x:Int} {i:Nat} {y:Int} (hy:(bO g x i)[i]? =some y) (j:Nat):(ed g x i (o7 (wo g (x::(bO g x i).take i)) y) j).length<=99:=by
 have h1:=(gI hg x (i+1)).le
 rw[<-xR hy]at h1
 refine Nat.le_trans ?_ h1
 unfold ed
 rw[List.length_append,List.length_append]
 refine Nat.add_le_add_left ?_ _
 rw[List.take_of_length_le (Nat.le_refl _)]
 exact(List.Sublist.filter _ (List.take_sublist j _)).length_le
theorem NY {g:Int×Int->Bool} {x:Int} {i:Nat} {y:Int} (hy:(bO g x i)[i]? =some y):wo (wo g (x::(bO g x i).take i)) [y]=wo g (x::(bO g x (i+1)).take (i+1)):=by
 rw[Qr]
 have hlt:=(List.getElem?_eq_some_iff.1 hy).1
 rw[bO,hy]
 simp only
 rw[List.take_append_of_le_length (by omega),List.take_add_one,hy]
 rfl
end Go.Proofs.YtmbjgiaebneodaaGreat
