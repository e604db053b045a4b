/- What is proved here: plain facts and contracts that the claimed theorem stands on. No condition but those that each names. -/
import Derived.Test.YtmbjgiaebneodaaGreatG19
namespace Go.Proofs.YtmbjgiaebneodaaGreat
open Go.RowKit
set_option maxHeartbeats 4000000
set_option maxRecDepth 100000
theorem gQ (s:ByteArray) (w:World):
    Calls Tryz.prog 70 #[.string s] w fun e w'=>e=.returned (.agg #[.int .i64 2,.int .i64 0,.string s,.slice none 0 0])/\w'=w.alloc (.cells #[.int .i64 2,.int .i64 0,.string s,.slice none 0 0] 30):=by
 go_enter Tryz.func70,Tryz.ntmps70
 go_wp2_with fail
 exact bodyPost_ret (v:=.agg #[.int .i64 2,.int .i64 0,.string s,.slice none 0 0]) (by simp[results,Tryz.results70,go_sem]) rfl ⟨rfl,rfl⟩
theorem dY (a:Option Addr) (l c:Nat) (w:World):
    Calls Tryz.prog 72 #[.slice a l c] w fun e w'=>e=.returned (.agg #[.int .i64 4,.int .i64 0,.string ⟨#[]⟩,.slice a l c])/\w'=w.alloc (.cells #[.int .i64 4,.int .i64 0,.string ⟨#[]⟩,.slice a l c] 30):=by
 go_enter Tryz.func72,Tryz.ntmps72
 go_wp2_with fail
 exact bodyPost_ret (v:=.agg #[.int .i64 4,.int .i64 0,.string ⟨#[]⟩,.slice a l c]) (by simp[results,Tryz.results72,go_sem]) rfl ⟨rfl,rfl⟩
def gB (B N:Nat) (X:Tm N) (w:World) (e:Ending) (w':World):Prop:=
 ∃y:Tm N,e=.returned (val N y)/\Hid (Below w.heap.size w w'/\In w'.heap.size w' N y/\Off (fun b=>b<B∨w.heap.size<=b) N y/\same N y N X=true)
abbrev GrowT (n B base:Nat) (xs:List (Tm n)) (v:Value) (w0 wr:World):Prop:=Grow (fun B w x=>In B w n x) (fun P x=>Off P n x) (fP n) 4 30 B base xs v w0 wr
theorem kV (n:Nat) (x:Tm n):(fP n x).length=4:=rfl
theorem dP (s:ByteArray) (N:Nat) (h:s.size<=maxLen) (B:Nat) (w:World):In B w (N+1) (aC s N):=⟨⟨by simp[aC,bR],by simp[aC,bR],h,by simp[aC],by simp[aC]⟩,Or.inl rfl⟩
theorem Mw (k u:Int) (N:Nat) (hk:bR k) (hu:bR u) (B:Nat) (w:World):In B w (N+1) (aF k u N):=⟨⟨hk,hu,Nat.zero_le _,by simp[aF],by simp[aF]⟩,Or.inl rfl⟩
theorem nL (s:ByteArray) (N:Nat) (P:Nat->Prop):Off P (N+1) (aC s N):=Or.inl rfl
theorem F7 {n:Nat} {w:World} {b o:Nat} {x:Tm n} {B:Nat} {w0:World} (hi:In B w0 n x) (h:∀(j:Nat) (u:Value),(fP n x)[j]? =some u->w.cell? ⟨b,o+j,none⟩=some u):Held w b o n x:=by
 cases n with
 | zero=>exact hi.elim
 | succ n=>exact⟨h 0 _ rfl,h 1 _ rfl,h 2 _ rfl,h 3 _ rfl⟩
theorem GrowT.tells {B base N:Nat} {xs ys:List (Tm N)} {v:Value} {w w0 wr w':World} (h:GrowT N B base xs v w0 wr) (hbase:w.heap.size<=base) (hs:ah (fun a b=>same N a N b) xs ys=true)
    (hw:∀b,b<B∨base<=b->b<wr.heap.size->w'.heap[b]? =wr.heap[b]?) (hsz:wr.heap.size<=w'.heap.size) (hb:Below w.heap.size w w'):
    ∃a c,v=.slice a xs.length c/\gB B (N+1) (bH N ys) w (.returned (.agg #[.int .i64 4,.int .i64 0,.string ⟨#[]⟩,.slice a xs.length c])) w':=by
 have hS:=dm N
 obtain⟨a,c,e,hc,hl,ho⟩:=h.lay hS (kV N)
 refine⟨a,c,e,((4,0,.empty),(a,c),xs),rfl,hb,⟨⟨by simp[bR],by simp[bR],Nat.zero_le _,hc.1,hc.2⟩, ?_⟩, ?_,aZ rfl hs⟩
 ·have h2:=(bi hS 4 (fP N) a).2.1 _ _ _ _ ho hl
  have h3:=(bi hS 4 (fP N) a).2.2.1 _ _ wr w' _ (fun b hb'=>hw b hb'.1 hb'.2) h2 hl
  have h4:=(bi hS 4 (fP N) a).2.2.2.1 _ _ _ _ hsz h3
  rcases h4 with h4|⟨b,o,e,hb,h4⟩
  ·exact Or.inl h4
  ·exact Or.inr ⟨b,o,e,hb,fun i y hy=>⟨F7 (h4 i y hy).2 (h4 i y hy).1,(h4 i y hy).2⟩⟩
 ·rcases ho with ho|⟨b,o,e,hb,ho⟩
  ·exact Or.inl ho
  ·exact Or.inr ⟨b,o,e,by omega,fun i y hy=>(ho y (List.mem_of_getElem? hy)).mono fun b hb=>by omega⟩
theorem nJ {B N:Nat} (xs:List (Tm N)) {w w1 w':World} {cs:Array Value} {g L:Nat} (h1:Below w.heap.size w w1) (hg:g=w1.heap.size) (hL:L=xs.length) (h2:Below (w1.alloc (.cells cs 30)).heap.size (w1.alloc (.cells cs 30)) w') (hcs:cs.toList=xs.flatMap (fP N)) (hm:xs.length<=8) (hBw:B<=w.heap.size) (hX:∀y∈xs,In B w N y):
    gB B (N+1) (bH N xs) w (.returned (.agg #[.int .i64 4,.int .i64 0,.string ⟨#[]⟩,.slice (some ⟨g,0,none⟩) L L])) w':=by
 have h:=Grow.lit (T:=30) (k:=4) (B:=B) (base:=w1.heap.size) (dm N) xs (w0:=w1) hcs (kV N) (by unfold maxLen;omega) (Nat.le_refl _) (Below.refl _ _) (fun y hy=>⟨((hX y hy).below (h1.mono hBw)).mono (Nat.le_trans hBw h1.size),(nH (hX y hy)).mono fun b hb=>Or.inl hb⟩)
 have hal:Below w.heap.size w (w1.alloc (.cells cs 30)):=h1.trans (((Below.refl _ _).alloc (Nat.le_refl _) _).mono h1.size)
 obtain⟨a,c,e,k⟩:=GrowT.tells h h1.size (jy _ _ fun y hy=>jU (hX y hy)) (fun b _ hb=>h2.block b hb) h2.size (hal.trans (h2.mono hal.size))
 injection e with e1 e2 e3
 subst e1 e3 hL hg
 exact k
theorem fE {w:World} {o1 o2 o3:Obj}:Below w.heap.size w (((w.alloc o1).alloc o2).alloc o3)/\w.heap.size+1+1+1=(((w.alloc o1).alloc o2).alloc o3).heap.size:=
 ⟨(((Below.refl _ _).alloc (Nat.le_refl _) _).alloc (by simp) _).alloc (by simp;omega) _,by simp⟩
theorem sj {w:World} {o1 o2 o3 o4:Obj}:Below w.heap.size w ((((w.alloc o1).alloc o2).alloc o3).alloc o4)/\w.heap.size+1+1+1+1=((((w.alloc o1).alloc o2).alloc o3).alloc o4).heap.size:=
 ⟨((((Below.refl _ _).alloc (Nat.le_refl _) _).alloc (by simp) _).alloc (by simp;omega) _).alloc (by simp;omega) _,by simp⟩
theorem vE {w:World} {o:Obj}:Below w.heap.size w (w.alloc o).drew:=((Below.refl _ _).alloc (Nat.le_refl _) _).drew
theorem au {w:World} {o:Obj}:Below w.heap.size w (w.alloc o):=(Below.refl _ _).alloc (Nat.le_refl _) _
theorem gq (s:ByteArray) (h:s.size<=8):s.size<=maxLen:=by unfold maxLen;omega
theorem zt (n:Nat) (t x:Tm (n+1)) (s:ByteArray) (v:Int) (B:Nat) (w:World) (ht:In B w (n+1) t) (hx:In B w (n+1) x) (hB:B<=w.heap.size):
    Calls Tryz.prog 113 #[.agg #[.int .i64 1,.int .i64 t.1.1,.int .i64 t.1.2.1,.string t.1.2.2,.slice t.2.1.1 t.2.2.length t.2.1.2,.int .i64 x.1.1,.int .i64 x.1.2.1,.string x.1.2.2,.slice x.2.1.1 x.2.2.length x.2.1.2,.string s,.int .i64 v]] w (gB B (n+2) (bH (n+1) [aC iG n,t,x]) w):=by
 have HX:Hid (∀y∈[aC iG n,t,x],In B w (n+1) y):=fun y hy=>by
  simp only[List.mem_cons,List.not_mem_nil,or_false]at hy
  rcases hy with rfl|rfl|rfl
  ·exact dP _ _ (gq _ (by decide)) _ _
  ·exact ht
  ·exact hx
 clear ht hx
 go_enter Tryz.func113,Tryz.ntmps113
 go_wp2_with fail
 go_region_held3 (fun w'=>(w'.cell? ⟨w.heap.size,1,none⟩=some (.int .i64 t.1.1)/\w'.cell? ⟨w.heap.size,2,none⟩=some (.int .i64 t.1.2.1)/\w'.cell? ⟨w.heap.size,3,none⟩=some (.string t.1.2.2)/\w'.cell? ⟨w.heap.size,4,none⟩=some (.slice t.2.1.1 t.2.2.length t.2.1.2))/\
     (w'.cell? ⟨w.heap.size,5,none⟩=some (.int .i64 x.1.1)/\w'.cell? ⟨w.heap.size,6,none⟩=some (.int .i64 x.1.2.1)/\w'.cell? ⟨w.heap.size,7,none⟩=some (.string x.1.2.2)/\w'.cell? ⟨w.heap.size,8,none⟩=some (.slice x.2.1.1 x.2.2.length x.2.1.2))) (first|(go_keep;done)|(simp[go_sem];done))
  ((first|(go_at_call 70;refine(gQ _ _).mono ?_;rintro e w1 ⟨rfl,rfl⟩)|(go_at_call 72;refine(dY _ _ _ _).mono ?_;rintro e w1 ⟨rfl,rfl⟩)))
 go_wp2_with fail
 exact bodyPost_ret (v:=.agg #[.int .i64 4,.int .i64 0,.string ⟨#[]⟩,.slice (some ⟨w.heap.size+1+1+1,0,none⟩) 3 3]) (by simp[results,Tryz.results113,go_sem]) rfl (nJ [aC iG n,t,x] fE.1 fE.2 rfl vE rfl (by simp) hB HX.out)
theorem Ab (n:Nat) (t x:Tm (n+1)) (s:ByteArray) (v:Int) (B:Nat) (w:World) (ht:In B w (n+1) t) (hB:B<=w.heap.size):
    Calls Tryz.prog 113 #[.agg #[.int .i64 3,.int .i64 t.1.1,.int .i64 t.1.2.1,.string t.1.2.2,.slice t.2.1.1 t.2.2.length t.2.1.2,.int .i64 x.1.1,.int .i64 x.1.2.1,.string x.1.2.2,.slice x.2.1.1 x.2.2.length x.2.1.2,.string s,.int .i64 v]] w (gB B (n+2) (bH (n+1) [aC lL n,t]) w):=by
 have HX:Hid (∀y∈[aC lL n,t],In B w (n+1) y):=fun y hy=>by
  simp only[List.mem_cons,List.not_mem_nil,or_false]at hy
  rcases hy with rfl|rfl
  ·exact dP _ _ (gq _ (by decide)) _ _
  ·exact ht
 clear ht
 go_enter Tryz.func113,Tryz.ntmps113
 go_wp2_with fail
 go_region_held3 (fun w'=>w'.cell? ⟨w.heap.size,1,none⟩=some (.int .i64 t.1.1)/\w'.cell? ⟨w.heap.size,2,none⟩=some (.int .i64 t.1.2.1)/\w'.cell? ⟨w.heap.size,3,none⟩=some (.string t.1.2.2)/\w'.cell? ⟨w.heap.size,4,none⟩=some (.slice t.2.1.1 t.2.2.length t.2.1.2)) (first|(go_keep;done)|(simp[go_sem];done))
  ((first|(go_at_call 70;refine(gQ _ _).mono ?_;rintro e w1 ⟨rfl,rfl⟩)|(go_at_call 72;refine(dY _ _ _ _).mono ?_;rintro e w1 ⟨rfl,rfl⟩)))
 go_wp2_with fail
 exact bodyPost_ret (v:=.agg #[.int .i64 4,.int .i64 0,.string ⟨#[]⟩,.slice (some ⟨w.heap.size+1+1+1,0,none⟩) 2 2]) (by simp[results,Tryz.results113,go_sem]) rfl (nJ [aC lL n,t] fE.1 fE.2 rfl vE rfl (by simp) hB HX.out)
theorem Ar (n:Nat) (K:Int) (h1:(K==1)=false) (h2:(K==2)=false) (h3:(K==3)=false) (t x:Tm (n+1)) (s:ByteArray) (v:Int) (B:Nat) (w:World) (hB:B<=w.heap.size):
    Calls Tryz.prog 113 #[.agg #[.int .i64 K,.int .i64 t.1.1,.int .i64 t.1.2.1,.string t.1.2.2,.slice t.2.1.1 t.2.2.length t.2.1.2,.int .i64 x.1.1,.int .i64 x.1.2.1,.string x.1.2.2,.slice x.2.1.1 x.2.2.length x.2.1.2,.string s,.int .i64 v]] w (gB B (n+2) (bH (n+1) [aC lI n]) w):=by
 have HX:Hid (∀y∈[aC lI n],In B w (n+1) y):=fun y hy=>by
  simp only[List.mem_cons,List.not_mem_nil,or_false]at hy
  subst hy
  exact dP _ _ (gq _ (by decide)) _ _
 go_enter Tryz.func113,Tryz.ntmps113
 go_wp2_with (first|(go_at_call 70;refine(gQ _ _).mono ?_;rintro e w1 ⟨rfl,rfl⟩)|(go_at_call 72;refine(dY _ _ _ _).mono ?_;rintro e w1 ⟨rfl,rfl⟩))
 exact bodyPost_ret (v:=.agg #[.int .i64 4,.int .i64 0,.string ⟨#[]⟩,.slice (some ⟨w.heap.size+1+1+1,0,none⟩) 1 1]) (by simp[results,Tryz.results113,go_sem]) rfl (nJ [aC lI n] fE.1 fE.2 rfl au rfl (by simp) hB HX.out)
theorem wU (n:Nat) (t x:Tm (n+1)) (s:ByteArray) (v:Int) (hv:bR v) (hs:s.size<=maxLen) (B:Nat) (w:World) (hx:In B w (n+1) x) (hB:B<=w.heap.size):
    Calls Tryz.prog 113 #[.agg #[.int .i64 2,.int .i64 t.1.1,.int .i64 t.1.2.1,.string t.1.2.2,.slice t.2.1.1 t.2.2.length t.2.1.2,.int .i64 x.1.1,.int .i64 x.1.2.1,.string x.1.2.2,.slice x.2.1.1 x.2.2.length x.2.1.2,.string s,.int .i64 v]] w (gB B (n+2) (bH (n+1) [aC iR n,aC s n,x,aF 5 v n]) w):=by
 have HX:Hid (∀y∈[aC iR n,aC s n,x,aF 5 v n],In B w (n+1) y):=fun y hy=>by
  simp only[List.mem_cons,List.not_mem_nil,or_false]at hy
  rcases hy with rfl|rfl|rfl|rfl
  ·exact dP _ _ (gq _ (by decide)) _ _
  ·exact dP _ _ hs _ _
  ·exact hx
  ·exact Mw _ _ _ (by simp[bR]) hv _ _
 clear hx hs hv
 go_enter Tryz.func113,Tryz.ntmps113
 go_wp2_with fail
 go_region_held3 (fun w'=>(w'.cell? ⟨w.heap.size,9,none⟩=some (.string s)/\w'.cell? ⟨w.heap.size,10,none⟩=some (.int .i64 v))/\
     (w'.cell? ⟨w.heap.size,5,none⟩=some (.int .i64 x.1.1)/\w'.cell? ⟨w.heap.size,6,none⟩=some (.int .i64 x.1.2.1)/\w'.cell? ⟨w.heap.size,7,none⟩=some (.string x.1.2.2)/\w'.cell? ⟨w.heap.size,8,none⟩=some (.slice x.2.1.1 x.2.2.length x.2.1.2))) (first|(go_keep;done)|(simp[go_sem];done))
  ((first|(go_at_call 70;refine(gQ _ _).mono ?_;rintro e w1 ⟨rfl,rfl⟩)|(go_at_call 72;refine(dY _ _ _ _).mono ?_;rintro e w1 ⟨rfl,rfl⟩)))
 all_goals go_wp2_with fail
 all_goals exact bodyPost_ret (v:=.agg #[.int .i64 4,.int .i64 0,.string ⟨#[]⟩,.slice (some ⟨w.heap.size+1+1+1+1,0,none⟩) 4 4]) (by simp[results,Tryz.results113,go_sem]) rfl (nJ [aC iR n,aC s n,x,aF 5 v n] sj.1 sj.2 rfl vE rfl (by simp) hB HX.out)
theorem Bo (n:Nat) (a:Ac (n+1)) (B:Nat) (w:World) (hi:AcIn (n+1) B w a) (hB:B<=w.heap.size):
    Calls Tryz.prog 113 #[.agg (eG (n+1) a).toArray] w (gB B (n+2) (bT n a) w):=by
 obtain⟨K,⟨t,x⟩,s,v⟩:=a
 obtain⟨h1,h2,h3,h4,h5⟩:=hi
 unfold bT
 by_cases k1:K=1
 ·subst k1
  exact zt n t x s v B w h2 h3 hB
 by_cases k2:K=2
 ·subst k2
  exact wU n t x s v h5 h4 B w h3 hB
 by_cases k3:K=3
 ·subst k3
  exact Ab n t x s v B w h2 hB
 ·simp only[k1,k2,k3,if_false]
  exact Ar n K (by simpa using k1) (by simpa using k2) (by simpa using k3) t x s v B w hB
theorem Eh {B N base:Nat} (xs ys:List (Tm N)) {w w1 w':World} {cs:Array Value} {g L:Nat} (hb1:base<=w1.heap.size) (hg:g=w1.heap.size) (hL:L=xs.length) (hbase:w.heap.size<=base)
    (hw:∀b,b<B∨base<=b->b<(w1.alloc (.cells cs 30)).heap.size->w'.heap[b]? =(w1.alloc (.cells cs 30)).heap[b]?) (hsz:(w1.alloc (.cells cs 30)).heap.size<=w'.heap.size) (hb:Below w.heap.size w w')
    (hcs:cs.toList=xs.flatMap (fP N)) (hm:xs.length<=8) (hX:∀y∈xs,In w1.heap.size w1 N y/\Off (fun b=>b<B∨base<=b) N y) (hs:ah (fun a b=>same N a N b) xs ys=true):
    gB B (N+1) (bH N ys) w (.returned (.agg #[.int .i64 4,.int .i64 0,.string ⟨#[]⟩,.slice (some ⟨g,0,none⟩) L L])) w':=by
 have h:=Grow.lit (T:=30) (k:=4) (B:=B) (base:=base) (dm N) xs (w0:=w1) hcs (kV N) (by unfold maxLen;omega) hb1 (Below.refl _ _) hX
 obtain⟨a,c,e,k⟩:=GrowT.tells h hbase hs hw hsz hb
 injection e with e1 e2 e3
 subst e1 e3 hL hg
 exact k
theorem GrowT.slice {N B base:Nat} {xs:List (Tm N)} {v:Value} {w0 wr:World} (h:GrowT N B base xs v w0 wr):∃a c,v=.slice a xs.length c:=by
 rcases h.2.1.2 with⟨rfl,h0⟩|⟨g,cap,cur,rfl,_⟩
 ·exact⟨none,0,by rw[h0]⟩
 ·exact⟨_,_,rfl⟩
theorem uw (N:Nat) (x:Tm N):∀u∈fP N x,u.oneCell'=true:=by
 intro u hu
 simp[fP,yn]at hu
 rcases hu with rfl|rfl|rfl|rfl<;>rfl
theorem yY (w:World) (x:Nd) {g:Nat} (hg:g=w.heap.size):∀j u,(yn x)[j]? =some u->(w.alloc (.cells #[.int .i64 x.1.1,.int .i64 x.1.2.1,.string x.1.2.2,.slice x.2.1 x.2.2.1 x.2.2.2] 30)).cell? ((⟨g,0,none⟩:Addr).add j)=some u:=by
 subst hg
 intro j u hj
 rw[dX]
 have:j<4:=(List.getElem?_eq_some_iff.1 hj).1
 have h4:j=0∨j=1∨j=2∨j=3:=by omega
 rcases h4 with rfl|rfl|rfl|rfl<;>simp[yn]at hj<;>subst hj<;>simp[go_sem]
theorem GrowT.app {N B base k:Nat} {xs:List (Tm N)} {v:Value} {w0 wr w3 w4:World} {g c:Nat} (h:GrowT N B base xs v w0 wr) (hk:xs.length=k) (hB:B<=base) (hb:base<=wr.heap.size) (h3:Below wr.heap.size wr w3) (X:Tm N) (hX:In w3.heap.size w3 N X) (hO:Off (fun b=>b<B∨wr.heap.size<=b) N X) {o:Obj}
    (hown:w4.ownsRow base 30 4 (.slice (some ⟨g,0,none⟩) (k+1) c) (k+1) (xs.flatMap (fP N)++fP N X)) (hg:(w3.alloc o).grownBy w4 v.ownBlock) (hat:v.ownBlock=some g∨g=w3.heap.size+1):
    GrowT N B base (xs++ [X]) (.slice (some ⟨g,0,none⟩) (k+1) c) w0 w4:=by
 subst hk
 have hal:Below w3.heap.size w3 (w3.alloc o):=(Below.refl _ _).alloc (Nat.le_refl _) _
 exact Grow.step (dm N) h hB hb (h3.trans (hal.mono h3.size)) X ((hX.below hal).mono hal.size) hO hown hg (by simpa using hat)
theorem GrowT.own {N B base k:Nat} {xs:List (Tm N)} {v:Value} {w0 wr w3:World} (h:GrowT N B base xs v w0 wr) (hk:xs.length=k) (h3:Below wr.heap.size wr w3) (o:Obj):(w3.alloc o).ownsRow base 30 4 v k (xs.flatMap (fP N)):=by
 subst hk
 exact own_below h.2.1 (h3.trans (((Below.refl _ _).alloc (Nat.le_refl _) _).mono h3.size))
theorem fe (w:World) (o:Obj) {b:Nat} (h:b<w.heap.size):(w.alloc o).heap[b]? =w.heap[b]? :=(World.grownBy_alloc w o none).block b h (by simp)
theorem ag {w:World} {q:Nat} {cs:Array Value} {t:TypeId} (h:w.heap[q]? =some (.cells cs t)) (j:Nat):w.cell? ⟨q,j,none⟩=cs[j]? :=by simp[World.cell?,h]
theorem bE {w:World} {q:Nat} {cs:Array Value} {t:TypeId} (h:w.heap[q]? =some (.cells cs t)) (j:Nat):w.frozen? ⟨q,j,none⟩=false:=by simp[World.frozen?,h]
theorem jb (w:World) (o1 o2:Obj):((w.alloc o1).alloc o2).heap[w.heap.size]? =some o1/\((w.alloc o1).alloc o2).heap[w.heap.size+1]? =some o2:=by
 have h1:=(fe (w.alloc o1) o2 (b:=w.heap.size) (by simp)).trans (heap_alloc_new w o1)
 have h2:=heap_alloc_new (w.alloc o1) o2
 have e:(w.alloc o1).heap.size=w.heap.size+1:=by simp
 rw[e]at h2
 exact⟨h1,h2⟩
theorem zW {w:World} {r o:Nat} {v0 v1 v2 v3:Value} {B base:Nat} (hB:B<=r) (hb:r<base) {W:World} (hW:Below W.heap.size W w):∀b,b<B∨base<=b->b<W.heap.size->(bK w r o v0 v1 v2 v3).heap[b]? =W.heap[b]? :=fun b hb' hlt=>(aA (by omega) _ _ _ _).trans (hW.block b hlt)
theorem bZ {w W:World} {r o:Nat} {v0 v1 v2 v3:Value} (h:Below w.heap.size w W) (hr:w.heap.size<=r):Below w.heap.size w (bK W r o v0 v1 v2 v3):=
 ⟨h.os,h.tape,h.output,Nat.le_trans h.size (Nat.le_of_eq (aJ _ _ _ _).symm),fun b hb=>(aA (by omega) _ _ _ _).trans (h.block b hb)⟩
theorem GrowT.tup {N B base k:Nat} {xs:List (Tm N)} {va:Option Addr} {vc:Nat} {w0 wr:World} (h:GrowT N B base xs (.slice va k vc) w0 wr):In wr.heap.size wr (N+1) ((4,0,.empty),(va,vc),xs)/\Off (fun b=>b<B∨base<=b) (N+1) ((4,0,.empty),(va,vc),xs):=by
 obtain⟨a,c,e,hc,hl,ho⟩:=h.lay (dm N) (kV N)
 injection e with e1 e2 e3
 subst e1 e3
 refine⟨⟨⟨by simp[bR],by simp[bR],Nat.zero_le _,hc.1,hc.2⟩, ?_⟩, ?_⟩
 ·rcases hl with h4|⟨b,o,e,hb,h4⟩
  ·exact Or.inl h4
  ·exact Or.inr ⟨b,o,e,hb,fun i y hy=>⟨F7 (h4 i y hy).2 (h4 i y hy).1,(h4 i y hy).2⟩⟩
 ·rcases ho with ho|⟨b,o,e,hb,ho⟩
  ·exact Or.inl ho
  ·exact Or.inr ⟨b,o,e,hb,fun i y hy=>ho y (List.mem_of_getElem? hy)⟩
theorem zq {n B base:Nat} {s m x:Tm (n+1)} {w wr w1:World} {A:Tm (n+3)} {ys:List (Tm (n+2))} (hB:B<=w.heap.size) (hs:In B w (n+1) s) (hm:In B w (n+1) m) (hx:In B w (n+1) x) (hbw:Below w.heap.size w wr) (hA:In wr.heap.size wr (n+3) A/\Off (fun b=>b<B∨base<=b) (n+3) A) (hAs:same (n+3) A (n+3) (bH (n+2) ys)=true) (h1:Below wr.heap.size wr w1):
    (∀y∈[aC Fh (n+2),lift (n+3) (n+1) s,lift (n+3) (n+1) m,A,lift (n+3) (n+1) x],In w1.heap.size w1 (n+3) y/\Off (fun b=>b<B∨base<=b) (n+3) y)/\
    ah (fun a b=>same (n+3) a (n+3) b) [aC Fh (n+2),lift (n+3) (n+1) s,lift (n+3) (n+1) m,A,lift (n+3) (n+1) x] [aC Fh (n+2),lift (n+3) (n+1) s,lift (n+3) (n+1) m,bH (n+2) ys,lift (n+3) (n+1) x]=true:=by
 have L:∀t:Tm (n+1),In B w (n+1) t->In w1.heap.size w1 (n+3) (lift (n+3) (n+1) t)/\Off (fun b=>b<B∨base<=b) (n+3) (lift (n+3) (n+1) t):=fun t ht=>by
  have h2:=nE (n+3) (n+1) (by omega) t B w ht
  have hb:=hbw.trans (h1.mono hbw.size)
  exact⟨(h2.below (hb.mono hB)).mono (Nat.le_trans hB hb.size),(nH h2).mono fun b hb=>Or.inl hb⟩
 have S:∀t:Tm (n+1),In B w (n+1) t->same (n+3) (lift (n+3) (n+1) t) (n+3) (lift (n+3) (n+1) t)=true:=fun t ht=>jU (nE (n+3) (n+1) (by omega) t B w ht)
 refine⟨fun y hy=> ?_,by simp only[ah,S s hs,S m hm,S x hx,hAs,bV,Bool.and_self]⟩
 simp only[List.mem_cons,List.not_mem_nil,or_false]at hy
 rcases hy with rfl|rfl|rfl|rfl|rfl
 ·exact⟨dP _ _ (gq _ (by decide)) _ _,nL _ _ _⟩
 ·exact L s hs
 ·exact L m hm
 ·exact⟨(hA.1.below h1).mono h1.size,hA.2⟩
 ·exact L x hx
theorem eY (N n:Nat) (x:Tm (n+1)):fP (N+1) (lift (N+1) (n+1) x)=fP (n+1) x:=by
 unfold fP
 rw[Nk]
theorem zN (n:Nat) (s m x:Tm (n+1)) (va:Option Addr) (vc k:Nat) (xs:List (Tm (n+2))) (hk:xs.length=k):
    [.int .i64 2,.int .i64 0,.string ⟨#[111,110]⟩,.slice none 0 0,.int .i64 s.1.1,.int .i64 s.1.2.1,.string s.1.2.2,.slice s.2.1.1 s.2.2.length s.2.1.2,.int .i64 m.1.1,.int .i64 m.1.2.1,.string m.1.2.2,.slice m.2.1.1 m.2.2.length m.2.1.2,.int .i64 4,.int .i64 0,.string ⟨#[]⟩,.slice va k vc,.int .i64 x.1.1,.int .i64 x.1.2.1,.string x.1.2.2,.slice x.2.1.1 x.2.2.length x.2.1.2]=
     List.flatMap (fP (n+3)) [aC Fh (n+2),lift (n+3) (n+1) s,lift (n+3) (n+1) m,((4,0,.empty),(va,vc),xs),lift (n+3) (n+1) x]:=by
 show _=fP (n+3) (aC Fh (n+2))++(fP (n+3) (lift (n+3) (n+1) s)++(fP (n+3) (lift (n+3) (n+1) m)++(fP (n+3) ((4,0,.empty),(va,vc),xs)++(fP (n+3) (lift (n+3) (n+1) x)++ []))))
 rw[eY,eY,eY,<-hk]
 rfl
theorem ko {α β:Type} (f:α->β) (p:List α) (k:Nat) (x:α) (hx:p[k]? =some x):(p.take (k+1)).map f=(p.take k).map f++ [f x]:=by
 rw[List.take_add_one,hx]
 simp
def Q9 (n B:Nat) (p:List (Ac (n+1))) (w0:World) (base k:Nat) (v:Value) (wr:World):Prop:=
 ∃xs,xs.length=k/\GrowT (n+2) B base xs v w0 wr/\ah (fun a b=>same (n+2) a (n+2) b) xs ((p.take k).map (bT n))=true
theorem tH (n:Nat) (s m x:Tm (n+1)) (p:List (Ac (n+1))) (len:Nat) (hpl:Hid (p.length=len)) (h8:len<=8) (a:Option Addr) (pc:Nat) (B:Nat) (w:World) (hs:Hid (In B w (n+1) s)) (hm:Hid (In B w (n+1) m)) (hx:Hid (In B w (n+1) x))
    (hp:Hid (Lay B w 11 (eG (n+1)) (AcIn (n+1) B w) a p)) (hB:B<=w.heap.size) (X:Tm (n+4)) (hX:Hid (X=dL n ((s,m,x),(a,pc),p))):
    Calls Tryz.prog 93 #[.agg #[.int .i64 s.1.1,.int .i64 s.1.2.1,.string s.1.2.2,.slice s.2.1.1 s.2.2.length s.2.1.2,.int .i64 m.1.1,.int .i64 m.1.2.1,.string m.1.2.2,.slice m.2.1.1 m.2.2.length m.2.1.2,.slice a len pc,.int .i64 x.1.1,.int .i64 x.1.2.1,.string x.1.2.2,.slice x.2.1.1 x.2.2.length x.2.1.2]] w (gB B (n+4) X w):=by
 obtain⟨it,hit,htz0,htz1,htz2⟩:=info_parts gu
 have HT:=hide (⟨hit,htz0,htz1,htz2⟩:_/\_/\_/\_)
 clear hit htz0 htz1 htz2
 go_enter Tryz.func93,Tryz.ntmps93
 go_wp2_with fail
 have HN:=hide (jb w (.cells #[.int .i64 s.1.1,.int .i64 s.1.2.1,.string s.1.2.2,.slice s.2.1.1 s.2.2.length s.2.1.2,.int .i64 m.1.1,.int .i64 m.1.2.1,.string m.1.2.2,.slice m.2.1.1 m.2.2.length m.2.1.2,.slice a len pc,.int .i64 x.1.1,.int .i64 x.1.2.1,.string x.1.2.2,.slice x.2.1.1 x.2.2.length x.2.1.2] 77) (.cells #[.int .i64 0,.int .i64 0,.string ⟨#[]⟩,.slice none 0 0] 30))
 generalize hW0:(w.alloc _).alloc _=W0
 rw[hW0]at HN
 have HB0:Hid (Below w.heap.size w W0/\W0.heap.size=w.heap.size+2):=by
  subst hW0
  exact⟨((Below.refl _ _).alloc (Nat.le_refl _) _).alloc (by simp) _,by simp⟩
 have HA0:Hid (∀wr,Below (w.heap.size+2) W0 wr->Below w.heap.size w wr):=fun wr h=>HB0.out.1.trans (h.mono (by omega))
 go_loopw [3,9] (fun v i wr=>∃(k:Nat) (u:Value),k<=len/\i=.int .i64 k/\u=v/\Hid (Q9 n B p W0 (w.heap.size+2) k u wr)) (fun _ i _=>len-(intOf i).toNat)
 case atStart=>exact⟨0,_,by omega,rfl,rfl,[],rfl,Grow.nil _,rfl⟩
 case round=>
  obtain⟨k,v,hk,rfl,rfl,HR⟩:=hrel
  obtain⟨xs,HL,HG,HM⟩:∃xs:List (Tm (n+2)),Hid (xs.length=k)/\Hid (GrowT (n+2) B (w.heap.size+2) xs v W0 wr)/\Hid (ah (fun a b=>same (n+2) a (n+2) b) xs ((p.take k).map (bT n))=true):=HR.out
  clear HR
  have HBW:=hide (HA0.out wr HG.out.1)
  have hbase:w.heap.size+2<=wr.heap.size:=by have:=HG.out.1.size;have:=HB0.out.2;omega
  by_cases hlt:k<len
  ·obtain⟨y,hy⟩:∃y,p[k]? =some y:=⟨p[k]'(by rw[hpl.out];exact hlt),List.getElem?_eq_getElem _⟩
   have HS:=hide (ko (bT n) p k y hy)
   obtain⟨pb,po,rfl,hpb,⟨x0,⟨x1,x2,x3,x4⟩,⟨x5,x6,x7,x8⟩,x9,x10⟩,hi⟩:=(ji (dW (n+1)) (HBW.out.mono hB) hp.out).ac k y hy
   have hB':B<=wr.heap.size:=by omega
   have HC:Hid (∀w1,Below wr.heap.size wr w1->Calls Tryz.prog 113 #[.agg #[.int .i64 y.1,.int .i64 y.2.1.1.1.1,.int .i64 y.2.1.1.1.2.1,.string y.2.1.1.1.2.2,.slice y.2.1.1.2.1.1 y.2.1.1.2.2.length y.2.1.1.2.1.2,.int .i64 y.2.1.2.1.1,.int .i64 y.2.1.2.1.2.1,.string y.2.1.2.1.2.2,.slice y.2.1.2.2.1.1 y.2.1.2.2.2.length y.2.1.2.2.1.2,.string y.2.2.1,.int .i64 y.2.2.2]] w1 (gB B (n+2) (bT n y) w1)):=
    fun w1 hw=>Bo n y B w1 ((dW (n+1)).below (hw.mono hB') hi) (Nat.le_trans hB' hw.size)
   clear hi hy
   generalize bT n y=Y at*
   have hk1:(0:Int)<=(k:Int):=by omega
   have hk2:(k:Int)<(len:Int):=by omega
   have hpw:pb<wr.heap.size:=by omega
   obtain⟨va,vc,hv⟩:=HG.out.slice
   rw[HL.out]at hv
   subst hv
   go_wp2_with fail
   refine(HC.out _ au).mono ?_
   rintro e w3 ⟨z,rfl,HZ⟩
   have HB3:Hid (Below wr.heap.size wr w3):=au.trans (HZ.out.1.mono (by simp))
   have e3:val (n+2) z=.agg #[.int .i64 z.1.1,.int .i64 z.1.2.1,.string z.1.2.2,.slice z.2.1.1 z.2.2.length z.2.1.2]:=rfl
   rw[e3]
   have HST:=fun(o:Obj) (g c:Nat) (w4:World) hown hgrow hat=>hide (HG.out.app HL.out (by omega) hbase HB3.out z HZ.out.2.1 (HZ.out.2.2.1.mono fun b hb=>by simp at hb;omega) (o:=o) (g:=g) (c:=c) (w4:=w4) hown hgrow hat)
   have h3s:wr.heap.size<=w3.heap.size:=HB3.out.size
   clear e3 HC x0 x1 x2 x3 x4 x5 x6 x7 x8 x9 x10
   go_wp2_with (at_builtin;refine wpList_append_lies _ rfl _ _ 28 rfl (w.heap.size+2) 30 it _ 4 56 Tryz.underlying28 HT.out.1 HT.out.2.1 HT.out.2.2.1 HT.out.2.2.2 rfl (by decide) (.slice va k vc) k (xs.flatMap (fP (n+2))) (by simp[Act.eval]) (HG.out.own HL.out HB3.out _) ⟨w3.heap.size,0,none⟩ 1 1 (fP (n+2) z) (by simp[Act.eval]) rfl (yY w3 (gZ (n+2) z) rfl) (uw _ _) (by decide) (by unfold maxLen;omega) (by omega) (by simp;omega) (w3.heap.size+1) (by simp) ?_;intro g4 c4 w4 hown4 hgrow4 hat4 hlt4;have HS4:=HST _ g4 c4 w4 hown4 hgrow4 hat4;clear hown4 hgrow4 hat4)
   go_roundw
   case rel=>exact⟨k+1,_,by omega,by go_num,rfl,xs++ [z],by simp[HL.out],HS4.out,by rw[HS.out];exact gK _ _ _ _ _ HM.out HZ.out.2.2.2⟩
   case measure=>simp[intOf];omega
  ·obtain rfl:k=len:=by omega
   obtain⟨va,vc,hv⟩:=HG.out.slice
   rw[HL.out]at hv
   subst hv
   have HX1:=hide (And.intro ((HG.out.1.block w.heap.size (by omega)).trans HN.out.1) ((HG.out.1.block (w.heap.size+1) (by omega)).trans HN.out.2))
   have c0:wr.cell? ⟨w.heap.size,0,none⟩=some (.int .i64 s.1.1):=ag HX1.out.1 0
   have c1:wr.cell? ⟨w.heap.size,1,none⟩=some (.int .i64 s.1.2.1):=ag HX1.out.1 1
   have c2:wr.cell? ⟨w.heap.size,2,none⟩=some (.string s.1.2.2):=ag HX1.out.1 2
   have c3:wr.cell? ⟨w.heap.size,3,none⟩=some (.slice s.2.1.1 s.2.2.length s.2.1.2):=ag HX1.out.1 3
   have c4:wr.cell? ⟨w.heap.size,4,none⟩=some (.int .i64 m.1.1):=ag HX1.out.1 4
   have c5:wr.cell? ⟨w.heap.size,5,none⟩=some (.int .i64 m.1.2.1):=ag HX1.out.1 5
   have c6:wr.cell? ⟨w.heap.size,6,none⟩=some (.string m.1.2.2):=ag HX1.out.1 6
   have c7:wr.cell? ⟨w.heap.size,7,none⟩=some (.slice m.2.1.1 m.2.2.length m.2.1.2):=ag HX1.out.1 7
   have c9:wr.cell? ⟨w.heap.size,9,none⟩=some (.int .i64 x.1.1):=ag HX1.out.1 9
   have c10:wr.cell? ⟨w.heap.size,10,none⟩=some (.int .i64 x.1.2.1):=ag HX1.out.1 10
   have c11:wr.cell? ⟨w.heap.size,11,none⟩=some (.string x.1.2.2):=ag HX1.out.1 11
   have c12:wr.cell? ⟨w.heap.size,12,none⟩=some (.slice x.2.1.1 x.2.2.length x.2.1.2):=ag HX1.out.1 12
   have d0:wr.cell? ⟨w.heap.size+1,0,none⟩=some (.int .i64 0):=ag HX1.out.2 0
   have d1:wr.cell? ⟨w.heap.size+1,1,none⟩=some (.int .i64 0):=ag HX1.out.2 1
   have d2:wr.cell? ⟨w.heap.size+1,2,none⟩=some (.string ⟨#[]⟩):=ag HX1.out.2 2
   have d3:wr.cell? ⟨w.heap.size+1,3,none⟩=some (.slice none 0 0):=ag HX1.out.2 3
   have f0:=fun j=>bE HX1.out.2 j
   have hq:w.heap.size<wr.heap.size:=by omega
   have hq1:w.heap.size+1<wr.heap.size:=by omega
   have HK:Hid (∀w',Below wr.heap.size wr w'->(w'.cell? ⟨w.heap.size,0,none⟩=some (.int .i64 s.1.1)/\w'.cell? ⟨w.heap.size,1,none⟩=some (.int .i64 s.1.2.1)/\w'.cell? ⟨w.heap.size,2,none⟩=some (.string s.1.2.2)/\w'.cell? ⟨w.heap.size,3,none⟩=some (.slice s.2.1.1 s.2.2.length s.2.1.2))/\
     (w'.cell? ⟨w.heap.size,4,none⟩=some (.int .i64 m.1.1)/\w'.cell? ⟨w.heap.size,5,none⟩=some (.int .i64 m.1.2.1)/\w'.cell? ⟨w.heap.size,6,none⟩=some (.string m.1.2.2)/\w'.cell? ⟨w.heap.size,7,none⟩=some (.slice m.2.1.1 m.2.2.length m.2.1.2))/\
     (w'.cell? ⟨w.heap.size,9,none⟩=some (.int .i64 x.1.1)/\w'.cell? ⟨w.heap.size,10,none⟩=some (.int .i64 x.1.2.1)/\w'.cell? ⟨w.heap.size,11,none⟩=some (.string x.1.2.2)/\w'.cell? ⟨w.heap.size,12,none⟩=some (.slice x.2.1.1 x.2.2.length x.2.1.2))):=fun w' h=>by
    have hc:=fun o=>af h w.heap.size o hq
    exact⟨⟨(hc _).trans c0,(hc _).trans c1,(hc _).trans c2,(hc _).trans c3⟩,⟨(hc _).trans c4,(hc _).trans c5,(hc _).trans c6,(hc _).trans c7⟩,(hc _).trans c9,(hc _).trans c10,(hc _).trans c11,(hc _).trans c12⟩
   have Htwo:Hid True:=trivial
   have HLIT:=fun(w1:World) (h1:Below wr.heap.size wr w1)=>hide (zq (base:=w.heap.size+2) (ys:=p.map (bT n)) (w1:=w1) hB hs.out hm.out hx.out HBW.out HG.out.tup (aZ rfl (by have h:=HM.out;rw[List.take_of_length_le (by rw[hpl.out];omega)]at h;exact h)) h1)
   have HLn:=hide HL.out
   clear hW0 HG HL HM HX1 HA0 HB0 HN
   go_wp2_with fail
   go_region_held3 (fun w'=>(w'.cell? ⟨w.heap.size,0,none⟩=some (.int .i64 s.1.1)/\w'.cell? ⟨w.heap.size,1,none⟩=some (.int .i64 s.1.2.1)/\w'.cell? ⟨w.heap.size,2,none⟩=some (.string s.1.2.2)/\w'.cell? ⟨w.heap.size,3,none⟩=some (.slice s.2.1.1 s.2.2.length s.2.1.2))/\
       (w'.cell? ⟨w.heap.size,4,none⟩=some (.int .i64 m.1.1)/\w'.cell? ⟨w.heap.size,5,none⟩=some (.int .i64 m.1.2.1)/\w'.cell? ⟨w.heap.size,6,none⟩=some (.string m.1.2.2)/\w'.cell? ⟨w.heap.size,7,none⟩=some (.slice m.2.1.1 m.2.2.length m.2.1.2))/\
       (w'.cell? ⟨w.heap.size,9,none⟩=some (.int .i64 x.1.1)/\w'.cell? ⟨w.heap.size,10,none⟩=some (.int .i64 x.1.2.1)/\w'.cell? ⟨w.heap.size,11,none⟩=some (.string x.1.2.2)/\w'.cell? ⟨w.heap.size,12,none⟩=some (.slice x.2.1.1 x.2.2.length x.2.1.2))) (first|(go_keep;done)|exact HK.out _ HB5.out|(refine HK.out _ ?_;go_grown;done))
    ((first
     | (go_at_call 70;refine(gQ _ _).mono ?_;rintro e w1 ⟨rfl,rfl⟩)
     | (go_at_call 72;have Hone:=Htwo;clear Htwo;refine(dY _ _ _ _).mono ?_;rintro e w1 ⟨rfl,rfl⟩)
     | (go_at_call 72;clear Hone;refine(dY _ _ _ _).mono ?_;rintro e w5 ⟨rfl,hw5⟩;have HB5:=hide (show Below wr.heap.size wr w5 by rw[hw5];go_grown);have HW5:=hide hw5;clear hw5;replace d0:=(af HB5.out _ _ hq1).trans d0;replace d1:=(af HB5.out _ _ hq1).trans d1;replace d2:=(af HB5.out _ _ hq1).trans d2;replace d3:=(af HB5.out _ _ hq1).trans d3;replace f0:=fun j=>(fq HB5.out _ j hq1).trans (f0 j))))
   go_wp2_with fail
   refine bodyPost_ret (v:=.agg #[.int .i64 4,.int .i64 0,.string ⟨#[]⟩,.slice (some ⟨wr.heap.size+1+1,0,none⟩) 5 5]) (by simp[results,Tryz.results93,go_sem,d0,d1,d2,d3]) rfl ?_
   rw[hX.out]
   have hal:Below wr.heap.size wr ((wr.alloc (.cells #[.int .i64 2,.int .i64 0,.string ⟨#[111,110]⟩,.slice none 0 0] 30)).alloc (.cells #[.int .i64 4,.int .i64 0,.string ⟨#[]⟩,.slice va k vc] 30)):=by go_grown
   have h5:Below (((wr.alloc (.cells #[.int .i64 2,.int .i64 0,.string ⟨#[111,110]⟩,.slice none 0 0] 30)).alloc (.cells #[.int .i64 4,.int .i64 0,.string ⟨#[]⟩,.slice va k vc] 30)).alloc (.cells #[.int .i64 2,.int .i64 0,.string ⟨#[111,110]⟩,.slice none 0 0,.int .i64 s.1.1,.int .i64 s.1.2.1,.string s.1.2.2,.slice s.2.1.1 s.2.2.length s.2.1.2,.int .i64 m.1.1,.int .i64 m.1.2.1,.string m.1.2.2,.slice m.2.1.1 m.2.2.length m.2.1.2,.int .i64 4,.int .i64 0,.string ⟨#[]⟩,.slice va k vc,.int .i64 x.1.1,.int .i64 x.1.2.1,.string x.1.2.2,.slice x.2.1.1 x.2.2.length x.2.1.2] 30)).heap.size (((wr.alloc (.cells #[.int .i64 2,.int .i64 0,.string ⟨#[111,110]⟩,.slice none 0 0] 30)).alloc (.cells #[.int .i64 4,.int .i64 0,.string ⟨#[]⟩,.slice va k vc] 30)).alloc (.cells #[.int .i64 2,.int .i64 0,.string ⟨#[111,110]⟩,.slice none 0 0,.int .i64 s.1.1,.int .i64 s.1.2.1,.string s.1.2.2,.slice s.2.1.1 s.2.2.length s.2.1.2,.int .i64 m.1.1,.int .i64 m.1.2.1,.string m.1.2.2,.slice m.2.1.1 m.2.2.length m.2.1.2,.int .i64 4,.int .i64 0,.string ⟨#[]⟩,.slice va k vc,.int .i64 x.1.1,.int .i64 x.1.2.1,.string x.1.2.2,.slice x.2.1.1 x.2.2.length x.2.1.2] 30)) w5:=by rw[HW5.out];go_grown
   have HL5:=HLIT _ hal
   exact Eh (B:=B) (base:=w.heap.size+2) _ _ (by have:=hal.size;omega) (by simp) rfl (by omega) (zW (by omega) (by omega) h5) (Nat.le_trans h5.size (Nat.le_of_eq (aJ _ _ _ _).symm)) (bZ (HBW.out.trans (HB5.out.mono HBW.out.size)) (by omega)) (zN n s m x va vc k xs HLn.out) (by show 5<=8;omega) HL5.out.1 HL5.out.2
theorem vC (n:Nat) (c:Cl (n+1)) (B:Nat) (w:World) (hi:fM (n+1) B w c) (h8:c.2.2.length<=8) (hB:B<=w.heap.size):
    Calls Tryz.prog 93 #[.agg (dJ (n+1) c).toArray] w (gB B (n+4) (dL n c) w):=by
 obtain⟨⟨s,m,x⟩,⟨a,pc⟩,p⟩:=c
 exact tH n s m x p p.length rfl h8 a pc B w hi.1.1 hi.1.2.1 hi.1.2.2 hi.2.2 hB _ rfl
def QX (n B:Nat) (h:List (Tm (n+4))) (p:List (Cl (n+1))) (w0:World) (base k:Nat) (v:Value) (wr:World):Prop:=
 ∃xs,xs.length=k+2/\GrowT (n+4) B base xs v w0 wr/\ah (fun a b=>same (n+4) a (n+4) b) xs (h++(p.take k).map (dL n))=true
theorem oF (n:Nat) (s:ByteArray) (hs0:s.size<=maxLen) (p:List (Cl (n+1))) (len:Nat) (hpl:Hid (p.length=len)) (h8:len<=6) (h8c:Hid (∀c∈p,c.2.2.length<=8)) (a:Option Addr) (pc:Nat) (B:Nat) (w:World)
    (hp:Hid (Lay B w 13 (dJ (n+1)) (fM (n+1) B w) a p)) (hB:B<=w.heap.size) (X:Tm (n+5)) (hX:Hid (X=dF n (s,(a,pc),p))):
    Calls Tryz.prog 71 #[.agg #[.string s,.slice a len pc]] w (gB B (n+5) X w):=by
 obtain⟨it,hit,htz0,htz1,htz2⟩:=info_parts gu
 have HT:=hide (⟨hit,htz0,htz1,htz2⟩:_/\_/\_/\_)
 clear hit htz0 htz1 htz2
 go_enter Tryz.func71,Tryz.ntmps71
 go_wp2_with fail
 have HN:=hide (jb w (.cells #[.string s,.slice a len pc] 80) (.cells #[.int .i64 0,.int .i64 0,.string ⟨#[]⟩,.slice none 0 0] 30)).2
 have HN1:=hide (jb w (.cells #[.string s,.slice a len pc] 80) (.cells #[.int .i64 0,.int .i64 0,.string ⟨#[]⟩,.slice none 0 0] 30)).1
 generalize hW0:(w.alloc _).alloc _=W0
 rw[hW0]at HN HN1
 have HB0:Hid (Below w.heap.size w W0/\W0.heap.size=w.heap.size+2):=by
  subst hW0
  exact⟨((Below.refl _ _).alloc (Nat.le_refl _) _).alloc (by simp) _,by simp⟩
 have HA0:Hid (∀wr,Below (w.heap.size+2) W0 wr->Below w.heap.size w wr):=fun wr h=>HB0.out.1.trans (h.mono (by omega))
 clear hW0
 have b0:W0.cell? ⟨w.heap.size,0,none⟩=some (.string s):=ag HN1.out 0
 have b1:W0.cell? ⟨w.heap.size,1,none⟩=some (.slice a len pc):=ag HN1.out 1
 have hq0:w.heap.size<W0.heap.size:=by have:=HB0.out.2;omega
 have HK:Hid (∀w',Below W0.heap.size W0 w'->w'.cell? ⟨w.heap.size,0,none⟩=some (.string s)/\w'.cell? ⟨w.heap.size,1,none⟩=some (.slice a len pc)):=fun w' h=>⟨(af h _ _ hq0).trans b0,(af h _ _ hq0).trans b1⟩
 clear HN1
 go_region_held3 (fun w'=>w'.cell? ⟨w.heap.size,0,none⟩=some (.string s)/\w'.cell? ⟨w.heap.size,1,none⟩=some (.slice a len pc)) (first|(go_keep;done)|(refine HK.out _ ?_;go_grown;done))
  ((go_at_call 70;refine(gQ _ _).mono ?_;rintro e w1 ⟨rfl,rfl⟩))
 have HM0:Hid (ah (fun a b=>same (n+4) a (n+4) b) [aC mq (n+3),aC s (n+3)] ([aC mq (n+3),aC s (n+3)]++(p.take 0).map (dL n))=true):=by
  show _=true
  simp[ah,bV]
 have HG0:Hid (GrowT (n+4) B (w.heap.size+2) [aC mq (n+3),aC s (n+3)] (.slice (some ⟨W0.heap.size+1+1,0,none⟩) 2 2) W0 (((W0.alloc (.cells #[.int .i64 2,.int .i64 0,.string ⟨#[98,101,104]⟩,.slice none 0 0] 30)).alloc (.cells #[.int .i64 2,.int .i64 0,.string s,.slice none 0 0] 30)).alloc (.cells #[.int .i64 2,.int .i64 0,.string ⟨#[98,101,104]⟩,.slice none 0 0,.int .i64 2,.int .i64 0,.string s,.slice none 0 0] 30)).drew):=by
  have h:=Grow.lit (T:=30) (k:=4) (B:=B) (base:=w.heap.size+2) (dm (n+4)) [aC mq (n+3),aC s (n+3)] (w0:=W0) (w1:=(W0.alloc (.cells #[.int .i64 2,.int .i64 0,.string ⟨#[98,101,104]⟩,.slice none 0 0] 30)).alloc (.cells #[.int .i64 2,.int .i64 0,.string s,.slice none 0 0] 30)) (cs:= #[.int .i64 2,.int .i64 0,.string ⟨#[98,101,104]⟩,.slice none 0 0,.int .i64 2,.int .i64 0,.string s,.slice none 0 0]) rfl (kV _) (by show 2<=maxLen;unfold maxLen;omega) (by have:=HB0.out.2;simp;omega) (((Below.refl _ _).alloc (by have:=HB0.out.2;omega) _).alloc (by have:=HB0.out.2;simp;omega) _) (fun y hy=>by
   simp only[List.mem_cons,List.not_mem_nil,or_false]at hy
   rcases hy with rfl|rfl
   ·exact⟨dP _ _ (gq _ (by decide)) _ _,nL _ _ _⟩
   ·exact⟨dP _ _ hs0 _ _,nL _ _ _⟩)
  have e:((W0.alloc (.cells #[.int .i64 2,.int .i64 0,.string ⟨#[98,101,104]⟩,.slice none 0 0] 30)).alloc (.cells #[.int .i64 2,.int .i64 0,.string s,.slice none 0 0] 30)).heap.size=W0.heap.size+1+1:=by simp
  rw[e]at h
  exact h.later (dm _) (by have:=HB0.out.2;simp;omega) (Below.refl _ _).drew
 have HK1:=hide (HK.out _ (show Below W0.heap.size W0 (((W0.alloc (.cells #[.int .i64 2,.int .i64 0,.string ⟨#[98,101,104]⟩,.slice none 0 0] 30)).alloc (.cells #[.int .i64 2,.int .i64 0,.string s,.slice none 0 0] 30)).alloc (.cells #[.int .i64 2,.int .i64 0,.string ⟨#[98,101,104]⟩,.slice none 0 0,.int .i64 2,.int .i64 0,.string s,.slice none 0 0] 30)).drew by go_grown))
 generalize hWi:(((W0.alloc _).alloc _).alloc _).drew=Wi
 rw[hWi]at HG0 HK1
 have i1:Wi.cell? ⟨w.heap.size,1,none⟩=some (.slice a len pc):=HK1.out.2
 clear hWi HK HK1 b0 b1
 go_wp2_with fail
 go_loopw [3,14] (fun v i wr=>∃(k:Nat) (u:Value),k<=len/\i=.int .i64 k/\u=v/\Hid (QX n B ([aC mq (n+3),aC s (n+3)]) p W0 (w.heap.size+2) k u wr)) (fun _ i _=>len-(intOf i).toNat)
 case atStart=>exact⟨0,_,by omega,rfl,rfl,_,rfl,HG0.out,HM0.out⟩
 case round=>
  clear HG0 HM0
  obtain⟨k,v,hk,rfl,rfl,HR⟩:=hrel
  obtain⟨xs,HL,HG,HM⟩:∃xs:List (Tm (n+4)),Hid (xs.length=k+2)/\Hid (GrowT (n+4) B (w.heap.size+2) xs v W0 wr)/\Hid (ah (fun a b=>same (n+4) a (n+4) b) xs (([aC mq (n+3),aC s (n+3)])++(p.take k).map (dL n))=true):=HR.out
  clear HR
  have HBW:=hide (HA0.out wr HG.out.1)
  have hbase:w.heap.size+2<=wr.heap.size:=by have:=HG.out.1.size;have:=HB0.out.2;omega
  by_cases hlt:k<len
  ·obtain⟨y,hy⟩:∃y,p[k]? =some y:=⟨p[k]'(by rw[hpl.out];exact hlt),List.getElem?_eq_getElem _⟩
   have HS:=hide (ko (dL n) p k y hy)
   obtain⟨pb,po,rfl,hpb,⟨⟨x0,x1,x2,x3⟩,⟨x4,x5,x6,x7⟩,x8,x9,x10,x11,x12⟩,hi⟩:=(ji (dA (n+1)) (HBW.out.mono hB) hp.out).cl k y hy
   have hB':B<=wr.heap.size:=by omega
   have HY:=hide hy
   have HC:Hid (∀w1,Below wr.heap.size wr w1->Calls Tryz.prog 93 #[.agg #[.int .i64 y.1.1.1.1,.int .i64 y.1.1.1.2.1,.string y.1.1.1.2.2,.slice y.1.1.2.1.1 y.1.1.2.2.length y.1.1.2.1.2,.int .i64 y.1.2.1.1.1,.int .i64 y.1.2.1.1.2.1,.string y.1.2.1.1.2.2,.slice y.1.2.1.2.1.1 y.1.2.1.2.2.length y.1.2.1.2.1.2,.slice y.2.1.1 y.2.2.length y.2.1.2,.int .i64 y.1.2.2.1.1,.int .i64 y.1.2.2.1.2.1,.string y.1.2.2.1.2.2,.slice y.1.2.2.2.1.1 y.1.2.2.2.2.length y.1.2.2.2.1.2]] w1 (gB B (n+4) (dL n y) w1)):=
    fun w1 hw=>vC n y B w1 ((dA (n+1)).below (hw.mono hB') hi) (h8c.out y (List.mem_of_getElem? HY.out)) (Nat.le_trans hB' hw.size)
   clear hi hy
   generalize dL n y=Y at*
   have hk1:(0:Int)<=(k:Int):=by omega
   have hk2:(k:Int)<(len:Int):=by omega
   have hpw:pb<wr.heap.size:=by omega
   obtain⟨va,vc,hv⟩:=HG.out.slice
   rw[HL.out]at hv
   subst hv
   go_wp2_with fail
   refine(HC.out _ au).mono ?_
   rintro e w3 ⟨z,rfl,HZ⟩
   have HB3:Hid (Below wr.heap.size wr w3):=au.trans (HZ.out.1.mono (by simp))
   have e3:val (n+4) z=.agg #[.int .i64 z.1.1,.int .i64 z.1.2.1,.string z.1.2.2,.slice z.2.1.1 z.2.2.length z.2.1.2]:=rfl
   rw[e3]
   have HST:=fun(o:Obj) (g c:Nat) (w4:World) hown hgrow hat=>hide (HG.out.app HL.out (by omega) hbase HB3.out z HZ.out.2.1 (HZ.out.2.2.1.mono fun b hb=>by simp at hb;omega) (o:=o) (g:=g) (c:=c) (w4:=w4) hown hgrow hat)
   have h3s:wr.heap.size<=w3.heap.size:=HB3.out.size
   clear e3 HC x0 x1 x2 x3 x4 x5 x6 x7 x8 x9 x10 x11 x12
   go_wp2_with (at_builtin;refine wpList_append_lies _ rfl _ _ 28 rfl (w.heap.size+2) 30 it _ 4 56 Tryz.underlying28 HT.out.1 HT.out.2.1 HT.out.2.2.1 HT.out.2.2.2 rfl (by decide) (.slice va (k+2) vc) (k+2) (xs.flatMap (fP (n+4))) (by simp[Act.eval]) (HG.out.own HL.out HB3.out _) ⟨w3.heap.size,0,none⟩ 1 1 (fP (n+4) z) (by simp[Act.eval]) rfl (yY w3 (gZ (n+4) z) rfl) (uw _ _) (by decide) (by unfold maxLen;omega) (by omega) (by simp;omega) (w3.heap.size+1) (by simp) ?_;intro g4 c4 w4 hown4 hgrow4 hat4 hlt4;have HS4:=HST _ g4 c4 w4 hown4 hgrow4 hat4;clear hown4 hgrow4 hat4)
   go_roundw
   case rel=>exact⟨k+1,_,by omega,by go_num,rfl,xs++ [z],by have:=HL.out;simp;omega,HS4.out,by rw[HS.out,<-List.append_assoc];exact gK _ _ _ _ _ HM.out HZ.out.2.2.2⟩
   case measure=>simp[intOf];omega
  ·obtain rfl:k=len:=by omega
   obtain⟨va,vc,hv⟩:=HG.out.slice
   rw[HL.out]at hv
   subst hv
   have HX1:=hide ((HG.out.1.block (w.heap.size+1) (by omega)).trans HN.out)
   have d0:wr.cell? ⟨w.heap.size+1,0,none⟩=some (.int .i64 0):=ag HX1.out 0
   have d1:wr.cell? ⟨w.heap.size+1,1,none⟩=some (.int .i64 0):=ag HX1.out 1
   have d2:wr.cell? ⟨w.heap.size+1,2,none⟩=some (.string ⟨#[]⟩):=ag HX1.out 2
   have d3:wr.cell? ⟨w.heap.size+1,3,none⟩=some (.slice none 0 0):=ag HX1.out 3
   have f0:=fun j=>bE HX1.out j
   have hq1:w.heap.size+1<wr.heap.size:=by omega
   have HF:=fun(W w':World) hb hw hsz=>hide (GrowT.tells (w:=w) (ys:=([aC mq (n+3),aC s (n+3)])++p.map (dL n)) (w':=w') (HG.out.later (dm _) hbase (w1:=W) hb) (by omega) (by have h:=HM.out;rw[List.take_of_length_le (by rw[hpl.out];omega)]at h;exact h) hw hsz)
   clear HX1 HN
   go_wp2_with (go_at_call 72;refine(dY _ _ _ _).mono ?_;rintro e w5 ⟨rfl,hw5⟩;have HB5:=hide (show Below wr.heap.size wr w5 by rw[hw5];go_grown);clear hw5;replace d0:=(af HB5.out _ _ hq1).trans d0;replace d1:=(af HB5.out _ _ hq1).trans d1;replace d2:=(af HB5.out _ _ hq1).trans d2;replace d3:=(af HB5.out _ _ hq1).trans d3;replace f0:=fun j=>(fq HB5.out _ j hq1).trans (f0 j))
   refine bodyPost_ret (v:=.agg #[.int .i64 4,.int .i64 0,.string ⟨#[]⟩,.slice va (k+2) vc]) (by simp[results,Tryz.results71,go_sem,d0,d1,d2,d3]) rfl ?_
   rw[hX.out]
   obtain⟨a',c',e',H⟩:=(HF w5 (bK w5 (w.heap.size+1) 0 (.int .i64 4) (.int .i64 0) (.string ⟨#[]⟩) (.slice va (k+2) vc)) HB5.out (zW (by omega) (by omega) (Below.refl _ _)) (Nat.le_of_eq (aJ _ _ _ _).symm)).out (bZ (HBW.out.trans (HB5.out.mono HBW.out.size)) (by omega))
   rw[HL.out]at e' H
   injection e' with e1 e2 e3
   subst e1 e3
   exact H
theorem pG (n:Nat) (b:Bh (n+1)) (B:Nat) (w:World) (hi:nQ (n+1) B w b) (h6:b.2.2.length<=6) (h8:∀c∈b.2.2,c.2.2.length<=8) (hB:B<=w.heap.size):
    Calls Tryz.prog 71 #[.agg (nK (n+1) b).toArray] w (gB B (n+5) (dF n b) w):=by
 obtain⟨s,⟨a,pc⟩,p⟩:=b
 exact oF n s hi.1 p p.length rfl h6 h8 a pc B w hi.2.2 hB _ rfl
def QY (n B:Nat) (h:List (Tm (n+5))) (p:List (Bh (n+1))) (w0:World) (base k:Nat) (v:Value) (wr:World):Prop:=
 ∃xs,xs.length=k+1/\GrowT (n+5) B base xs v w0 wr/\ah (fun a b=>same (n+5) a (n+5) b) xs (h++(p.take k).map (dF n))=true
theorem rP (n:Nat) (p:List (Bh (n+1))) (len:Nat) (hpl:Hid (p.length=len)) (h8:len<=7) (h8c:Hid (∀b∈p,b.2.2.length<=6/\∀c∈b.2.2,c.2.2.length<=8)) (a:Option Addr) (pc:Nat) (B:Nat) (w:World)
    (hp:Hid (PgIn (n+1) B w a p)) (hB:B<=w.heap.size) (X:Tm (n+6)) (hX:Hid (X=bM n p)):
    Calls Tryz.prog 47 #[.slice a len pc] w (gB B (n+6) X w):=by
 obtain⟨it,hit,htz0,htz1,htz2⟩:=info_parts gu
 have HT:=hide (⟨hit,htz0,htz1,htz2⟩:_/\_/\_/\_)
 clear hit htz0 htz1 htz2
 go_enter Tryz.func47,Tryz.ntmps47
 go_wp2_with (go_at_call 70;refine(gQ _ _).mono ?_;rintro e w1 ⟨rfl,rfl⟩)
 have HN:=hide (heap_alloc_new w (.cells #[.int .i64 0,.int .i64 0,.string ⟨#[]⟩,.slice none 0 0] 30))
 have HM0:Hid (ah (fun a b=>same (n+5) a (n+5) b) [aC iD (n+4)] ([aC iD (n+4)]++(p.take 0).map (dF n))=true):=by
  show _=true
  simp[ah,bV]
 generalize hW0:w.alloc (.cells #[.int .i64 0,.int .i64 0,.string ⟨#[]⟩,.slice none 0 0] 30)=W0
 rw[hW0]at HN
 have HB0:Hid (Below w.heap.size w W0/\W0.heap.size=w.heap.size+1):=by
  subst hW0
  exact⟨(Below.refl _ _).alloc (Nat.le_refl _) _,by simp⟩
 have HA0:Hid (∀wr,Below (w.heap.size+1) W0 wr->Below w.heap.size w wr):=fun wr h=>HB0.out.1.trans (h.mono (by omega))
 clear hW0
 have HG0:Hid (GrowT (n+5) B (w.heap.size+1) [aC iD (n+4)] (.slice (some ⟨w.heap.size+1+1,0,none⟩) 1 1) W0 ((W0.alloc (.cells #[.int .i64 2,.int .i64 0,.string ⟨#[99,111,100,101]⟩,.slice none 0 0] 30)).alloc (.cells #[.int .i64 2,.int .i64 0,.string ⟨#[99,111,100,101]⟩,.slice none 0 0] 30))):=by
  have h:=Grow.lit (T:=30) (k:=4) (B:=B) (base:=w.heap.size+1) (dm (n+5)) [aC iD (n+4)] (w0:=W0) (w1:=W0.alloc (.cells #[.int .i64 2,.int .i64 0,.string ⟨#[99,111,100,101]⟩,.slice none 0 0] 30)) (cs:= #[.int .i64 2,.int .i64 0,.string ⟨#[99,111,100,101]⟩,.slice none 0 0]) rfl (kV _) (by show 1<=maxLen;unfold maxLen;omega) (by have:=HB0.out.2;simp;omega) ((Below.refl _ _).alloc (by have:=HB0.out.2;omega) _) (fun y hy=>by
   simp only[List.mem_cons,List.not_mem_nil,or_false]at hy
   subst hy
   exact⟨dP _ _ (gq _ (by decide)) _ _,nL _ _ _⟩)
  have e:(W0.alloc (.cells #[.int .i64 2,.int .i64 0,.string ⟨#[99,111,100,101]⟩,.slice none 0 0] 30)).heap.size=w.heap.size+1+1:=by have:=HB0.out.2;simp;omega
  rw[e]at h
  exact h
 generalize hWi:(W0.alloc _).alloc _=Wi
 rw[hWi]at HG0
 clear hWi
 go_loopw [3,10] (fun v i wr=>∃(k:Nat) (u:Value),k<=len/\i=.int .i64 k/\u=v/\Hid (QY n B ([aC iD (n+4)]) p W0 (w.heap.size+1) k u wr)) (fun _ i _=>len-(intOf i).toNat)
 case atStart=>exact⟨0,_,by omega,rfl,rfl,_,rfl,HG0.out,HM0.out⟩
 case round=>
  clear HG0 HM0
  obtain⟨k,v,hk,rfl,rfl,HR⟩:=hrel
  obtain⟨xs,HL,HG,HM⟩:∃xs:List (Tm (n+5)),Hid (xs.length=k+1)/\Hid (GrowT (n+5) B (w.heap.size+1) xs v W0 wr)/\Hid (ah (fun a b=>same (n+5) a (n+5) b) xs (([aC iD (n+4)])++(p.take k).map (dF n))=true):=HR.out
  clear HR
  have HBW:=hide (HA0.out wr HG.out.1)
  have hbase:w.heap.size+1<=wr.heap.size:=by have:=HG.out.1.size;have:=HB0.out.2;omega
  by_cases hlt:k<len
  ·obtain⟨y,hy⟩:∃y,p[k]? =some y:=⟨p[k]'(by rw[hpl.out];exact hlt),List.getElem?_eq_getElem _⟩
   have HS:=hide (ko (dF n) p k y hy)
   obtain⟨pb,po,rfl,hpb,⟨x0,x1⟩,hi⟩:=(PgIn.below (HBW.out.mono hB) hp.out).bh k y hy
   have hB':B<=wr.heap.size:=by omega
   have HY:=hide hy
   have HC:Hid (∀w1,Below wr.heap.size wr w1->Calls Tryz.prog 71 #[.agg #[.string y.1,.slice y.2.1.1 y.2.2.length y.2.1.2]] w1 (gB B (n+5) (dF n y) w1)):=
    fun w1 hw=>pG n y B w1 ((dw (n+1)).below (hw.mono hB') hi) (h8c.out y (List.mem_of_getElem? HY.out)).1 (h8c.out y (List.mem_of_getElem? HY.out)).2 (Nat.le_trans hB' hw.size)
   clear hi hy
   generalize dF n y=Y at*
   have hk1:(0:Int)<=(k:Int):=by omega
   have hk2:(k:Int)<(len:Int):=by omega
   have hpw:pb<wr.heap.size:=by omega
   obtain⟨va,vc,hv⟩:=HG.out.slice
   rw[HL.out]at hv
   subst hv
   go_wp2_with fail
   refine(HC.out _ au).mono ?_
   rintro e w3 ⟨z,rfl,HZ⟩
   have HB3:Hid (Below wr.heap.size wr w3):=au.trans (HZ.out.1.mono (by simp))
   have e3:val (n+5) z=.agg #[.int .i64 z.1.1,.int .i64 z.1.2.1,.string z.1.2.2,.slice z.2.1.1 z.2.2.length z.2.1.2]:=rfl
   rw[e3]
   have HST:=fun(o:Obj) (g c:Nat) (w4:World) hown hgrow hat=>hide (HG.out.app HL.out (by omega) hbase HB3.out z HZ.out.2.1 (HZ.out.2.2.1.mono fun b hb=>by simp at hb;omega) (o:=o) (g:=g) (c:=c) (w4:=w4) hown hgrow hat)
   have h3s:wr.heap.size<=w3.heap.size:=HB3.out.size
   clear e3 HC x0 x1
   go_wp2_with (at_builtin;refine wpList_append_lies _ rfl _ _ 28 rfl (w.heap.size+1) 30 it _ 4 56 Tryz.underlying28 HT.out.1 HT.out.2.1 HT.out.2.2.1 HT.out.2.2.2 rfl (by decide) (.slice va (k+1) vc) (k+1) (xs.flatMap (fP (n+5))) (by simp[Act.eval]) (HG.out.own HL.out HB3.out _) ⟨w3.heap.size,0,none⟩ 1 1 (fP (n+5) z) (by simp[Act.eval]) rfl (yY w3 (gZ (n+5) z) rfl) (uw _ _) (by decide) (by unfold maxLen;omega) (by omega) (by simp;omega) (w3.heap.size+1) (by simp) ?_;intro g4 c4 w4 hown4 hgrow4 hat4 hlt4;have HS4:=HST _ g4 c4 w4 hown4 hgrow4 hat4;clear hown4 hgrow4 hat4)
   go_roundw
   case rel=>exact⟨k+1,_,by omega,by go_num,rfl,xs++ [z],by have:=HL.out;simp;omega,HS4.out,by rw[HS.out,<-List.append_assoc];exact gK _ _ _ _ _ HM.out HZ.out.2.2.2⟩
   case measure=>simp[intOf];omega
  ·obtain rfl:k=len:=by omega
   obtain⟨va,vc,hv⟩:=HG.out.slice
   rw[HL.out]at hv
   subst hv
   have HX1:=hide ((HG.out.1.block (w.heap.size) (by omega)).trans HN.out)
   have d0:wr.cell? ⟨w.heap.size,0,none⟩=some (.int .i64 0):=ag HX1.out 0
   have d1:wr.cell? ⟨w.heap.size,1,none⟩=some (.int .i64 0):=ag HX1.out 1
   have d2:wr.cell? ⟨w.heap.size,2,none⟩=some (.string ⟨#[]⟩):=ag HX1.out 2
   have d3:wr.cell? ⟨w.heap.size,3,none⟩=some (.slice none 0 0):=ag HX1.out 3
   have f0:=fun j=>bE HX1.out j
   have hq1:w.heap.size<wr.heap.size:=by omega
   have HF:=fun(W w':World) hb hw hsz=>hide (GrowT.tells (w:=w) (ys:=([aC iD (n+4)])++p.map (dF n)) (w':=w') (HG.out.later (dm _) hbase (w1:=W) hb) (by omega) (by have h:=HM.out;rw[List.take_of_length_le (by rw[hpl.out];omega)]at h;exact h) hw hsz)
   clear HX1 HN
   go_wp2_with (go_at_call 72;refine(dY _ _ _ _).mono ?_;rintro e w5 ⟨rfl,hw5⟩;have HB5:=hide (show Below wr.heap.size wr w5 by rw[hw5];go_grown);clear hw5;replace d0:=(af HB5.out _ _ hq1).trans d0;replace d1:=(af HB5.out _ _ hq1).trans d1;replace d2:=(af HB5.out _ _ hq1).trans d2;replace d3:=(af HB5.out _ _ hq1).trans d3;replace f0:=fun j=>(fq HB5.out _ j hq1).trans (f0 j))
   refine bodyPost_ret (v:=.agg #[.int .i64 4,.int .i64 0,.string ⟨#[]⟩,.slice va (k+1) vc]) (by simp[results,Tryz.results47,go_sem,d0,d1,d2,d3]) rfl ?_
   rw[hX.out]
   obtain⟨a',c',e',H⟩:=(HF w5 (bK w5 (w.heap.size) 0 (.int .i64 4) (.int .i64 0) (.string ⟨#[]⟩) (.slice va (k+1) vc)) HB5.out (zW (by omega) (by omega) (Below.refl _ _)) (Nat.le_of_eq (aJ _ _ _ _).symm)).out (bZ (HBW.out.trans (HB5.out.mono HBW.out.size)) (by omega))
   rw[HL.out]at e' H
   injection e' with e1 e2 e3
   subst e1 e3
   exact H
theorem tL (n:Nat) (p:List (Bh (n+1))) (a:Option Addr) (pc:Nat) (B:Nat) (w:World) (hi:PgIn (n+1) B w a p) (h7:p.length<=7) (h8:∀b∈p,b.2.2.length<=6/\∀c∈b.2.2,c.2.2.length<=8) (hB:B<=w.heap.size):
    Calls Tryz.prog 47 #[.slice a p.length pc] w (gB B (n+6) (bM n p) w):=
 rP n p p.length rfl h7 h8 a pc B w hi hB _ rfl
end Go.Proofs.YtmbjgiaebneodaaGreat
