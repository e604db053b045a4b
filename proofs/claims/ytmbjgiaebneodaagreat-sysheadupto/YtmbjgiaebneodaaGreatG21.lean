/- What is proved here: plain facts and contracts that the claimed theorem stands on. No condition but those that each names. -/
import Derived.Test.YtmbjgiaebneodaaGreatG20
namespace Go.Proofs.YtmbjgiaebneodaaGreat
open Go.RowKit
set_option maxHeartbeats 2000000
set_option maxRecDepth 100000
def zT (N:Nat):Tm (N+1):=((0,0,.empty),(none,0),[])
def lM (n:Nat) (p:List (Bh (n+1))):Int:=if iZ (n+1) p then aQ (n+6) (bM n p)else 5
def KZ (n:Nat) (p:List (Bh (n+1))):Tm (n+6):=if lM n p=0 then bM n p else zT (n+5)
def Km (B n:Nat) (p:List (Bh (n+1))) (w:World) (e:Ending) (w':World):Prop:=
 ∃y:Tm (n+6),e=.returned (.tuple #[val (n+6) y,.int .i64 (lM n p)])/\Hid (Below w.heap.size w w'/\In w'.heap.size w' (n+6) y/\Off (fun b=>b<B∨w.heap.size<=b) (n+6) y/\same (n+6) y (n+6) (KZ n p)=true)
theorem jE (N B:Nat) (w:World):In B w (N+1) (zT N):=⟨⟨by simp[zT,bR],by simp[zT,bR],Nat.zero_le _,by simp[zT],by simp[zT]⟩,Or.inl rfl⟩
theorem Gj {B n:Nat} {p:List (Bh (n+1))} {w w':World} {k:Int} (hb:Below w.heap.size w w') (hk:k=lM n p) (h0:¬k=0):Km B n p w (.returned (.tuple #[.agg #[.int .i64 0,.int .i64 0,.string .empty,.slice none 0 0],.int .i64 k])) w':=by
 subst hk
 refine⟨zT (n+5),rfl,hb,jE _ _ _,Or.inl rfl, ?_⟩
 unfold KZ
 rw[if_neg h0]
 exact jU (jE _ 0 w)
theorem yG {n:Nat} {p:List (Bh n)} (h:iZ n p=true):p.length<=7/\∀b∈p,b.2.2.length<=6/\∀c∈b.2.2,c.2.2.length<=8:=by
 simp only[iZ,wP,sN,Bool.and_eq_true,decide_eq_true_eq,List.all_eq_true]at h
 refine⟨by omega,fun b hb=>⟨by have:=(h.2 b hb).1.2;omega,fun c hc=>by have:=((h.2 b hb).2 c hc).1;omega⟩⟩
theorem pu (w:World) (v0 v1 v2 v3:Value) (t:TypeId) {w':World} (hb:Below (w.alloc (.cells #[v0,v1,v2,v3] t)).heap.size (w.alloc (.cells #[v0,v1,v2,v3] t)) w'):w'.heap[w.heap.size]? =some (.cells #[v0,v1,v2,v3] t):=
 (hb.block _ (by simp)).trans (heap_alloc_new w _)
theorem Mg (n:Nat) (p:List (Bh (n+1))) (a:Option Addr) (pc:Nat) (hl:p.length<=pc) (hpc:pc<=maxLen) (B:Nat) (w:World) (hp:PgIn (n+1) B w a p) (hB:B<=w.heap.size) (hN:iZ (n+1) p=true->(nodes (n+6) (bM n p)).length<=2097152):
    Calls Tryz.prog 23 #[.slice a p.length pc] w (Km B n p w):=by
 have HIP:Hid (∀w1,Below w.heap.size w w1->Calls Tryz.prog 46 #[.slice a p.length pc] w1 fun e w'=>e=.returned (.bool (iZ (n+1) p))/\Below w1.heap.size w1 w'):=
  fun w1 h=>nT n p p.length rfl a pc B w1 (hp.below (h.mono hB)) (by unfold maxLen at hpc;omega) (Nat.le_trans hB h.size)
 have HTP:Hid (iZ (n+1) p=true->∀w1,Below w.heap.size w w1->Calls Tryz.prog 47 #[.slice a p.length pc] w1 (gB B (n+6) (bM n p) w1)):=
  fun h w1 h1=>tL n p a pc B w1 (hp.below (h1.mono hB)) (yG h).1 (yG h).2 (Nat.le_trans hB h1.size)
 have HE:Hid (lM n p=if iZ (n+1) p then aQ (n+6) (bM n p)else 5):=rfl
 have HN:=hide hN
 have HTT:Hid (KZ n p=if lM n p=0 then bM n p else zT (n+5)):=rfl
 clear hp hN hl hpc
 generalize p.length=len at*
 generalize iZ (n+1) p=r at*
 go_enter Tryz.func23,Tryz.ntmps23
 go_wp2_with fail
 refine(HIP.out _ au).mono ?_
 rintro e w1 ⟨rfl,hb1⟩
 have HX1:=hide (pu w _ _ _ _ _ hb1)
 have HB1:Hid (Below w.heap.size w w1):=au.trans (hb1.mono (by simp))
 have hq1:w.heap.size<w1.heap.size:=(Array.getElem?_eq_some_iff.1 HX1.out).1
 clear hb1 HIP
 cases r
 ·have d0:w1.cell? ⟨w.heap.size,0,none⟩=some (.int .i64 0):=ag HX1.out 0
  have d1:w1.cell? ⟨w.heap.size,1,none⟩=some (.int .i64 0):=ag HX1.out 1
  have d2:w1.cell? ⟨w.heap.size,2,none⟩=some (.string ⟨#[]⟩):=ag HX1.out 2
  have d3:w1.cell? ⟨w.heap.size,3,none⟩=some (.slice none 0 0):=ag HX1.out 3
  have f0:=fun j=>bE HX1.out j
  clear HTP HX1
  go_wp2_with fail
  exact bodyPost_ret (v:=.tuple #[.agg #[.int .i64 0,.int .i64 0,.string .empty,.slice none 0 0],.int .i64 5]) (by simp[results,Tryz.results23,go_sem,d0,d1,d2,d3];rfl) rfl (Gj (bZ HB1.out (Nat.le_refl _)) (by rw[HE.out];rfl) (by omega))
 ·have HTP1:=hide (HTP.out rfl w1 HB1.out)
  go_wp2_with fail
  refine HTP1.out.mono ?_
  rintro e w2 ⟨y,rfl,HY⟩
  have HB2:Hid (Below w.heap.size w w2):=HB1.out.trans (HY.out.1.mono HB1.out.size)
  have e3:val (n+6) y=.agg #[.int .i64 y.1.1,.int .i64 y.1.2.1,.string y.1.2.2,.slice y.2.1.1 y.2.2.length y.2.1.2]:=rfl
  have HC:Hid (∀w3,Below w2.heap.size w2 w3->Calls Tryz.prog 42 #[.agg #[.int .i64 y.1.1,.int .i64 y.1.2.1,.string y.1.2.2,.slice y.2.1.1 y.2.2.length y.2.1.2]] w3 fun e w'=>e=.returned (.int .i64 (lM n p))/\Below w3.heap.size w3 w'):=fun w3 h3=>by
   have:=dh (n+6) y w2.heap.size w3 (HY.out.2.1.below h3) h3.size (by rw[jf _ _ _ _ HY.out.2.2.2];exact HN.out (by simp))
   rw[aX HY.out.2.2.2]at this
   rw[HE.out]
   exact this
  have HCP:Hid (lM n p=0->∀w3,Below w2.heap.size w2 w3->Calls Tryz.prog 45 #[.agg #[.int .i64 y.1.1,.int .i64 y.1.2.1,.string y.1.2.2,.slice y.2.1.1 y.2.2.length y.2.1.2]] w3 fun e w'=>∃z:Tm (n+6),e=.returned (val (n+6) z)/\Hid (Below w3.heap.size w3 w'/\In w'.heap.size w' (n+6) z/\Off (fun q=>w3.heap.size<=q) (n+6) z/\same (n+6) z (n+6) y=true)):=fun h0 w3 h3=>
   fV (n+6) y w2.heap.size w3 (HY.out.2.1.below h3) h3.size (ax.2 (by have h1:aQ (n+6) (bM n p)=0:=(by simpa [HE.out]using h0);rw[ib _ _ _ _ HY.out.2.2.2];exact(aN.1 h1).1))
  have HS:=hide HY.out.2.2.2
  have HX2:=hide ((HY.out.1.block _ hq1).trans HX1.out)
  have hq2:w.heap.size<w2.heap.size:=(Array.getElem?_eq_some_iff.1 HX2.out).1
  rw[e3]
  clear HTP HTP1 HX1 HB1 HY e3 HN
  generalize hE:lM n p=E at*
  have HEE:=hide hE
  clear hE HE
  go_wp2_with fail
  refine(HC.out _ au).mono ?_
  rintro e w3 ⟨rfl,hb3⟩
  have HB32:Hid (Below w2.heap.size w2 w3):=au.trans (hb3.mono (by simp))
  have HB3:Hid (Below w.heap.size w w3):=HB2.out.trans (HB32.out.mono HB2.out.size)
  have HXX:=hide (pu w2 _ _ _ _ _ hb3)
  have HX3:=hide ((HB32.out.block _ hq2).trans HX2.out)
  have hq3:w.heap.size<w3.heap.size:=(Array.getElem?_eq_some_iff.1 HX3.out).1
  have c0:w3.cell? ⟨w2.heap.size,0,none⟩=some (.int .i64 y.1.1):=ag HXX.out 0
  have c1:w3.cell? ⟨w2.heap.size,1,none⟩=some (.int .i64 y.1.2.1):=ag HXX.out 1
  have c2:w3.cell? ⟨w2.heap.size,2,none⟩=some (.string y.1.2.2):=ag HXX.out 2
  have c3:w3.cell? ⟨w2.heap.size,3,none⟩=some (.slice y.2.1.1 y.2.2.length y.2.1.2):=ag HXX.out 3
  clear hb3 HC HX2
  by_cases hE0:E=0
  ·subst hE0
   have HCP3:=hide (HCP.out rfl w3 HB32.out)
   clear HCP
   go_wp2_with fail
   refine HCP3.out.mono ?_
   rintro e w4 ⟨z,rfl,HZ⟩
   have HX4:=hide ((HZ.out.1.block _ hq3).trans HX3.out)
   have HB4:Hid (Below w.heap.size w w4):=HB3.out.trans (HZ.out.1.mono HB3.out.size)
   have d0:w4.cell? ⟨w.heap.size,0,none⟩=some (.int .i64 0):=ag HX4.out 0
   have d1:w4.cell? ⟨w.heap.size,1,none⟩=some (.int .i64 0):=ag HX4.out 1
   have d2:w4.cell? ⟨w.heap.size,2,none⟩=some (.string ⟨#[]⟩):=ag HX4.out 2
   have d3:w4.cell? ⟨w.heap.size,3,none⟩=some (.slice none 0 0):=ag HX4.out 3
   have f0:=fun j=>bE HX4.out j
   have e4:val (n+6) z=.agg #[.int .i64 z.1.1,.int .i64 z.1.2.1,.string z.1.2.2,.slice z.2.1.1 z.2.2.length z.2.1.2]:=rfl
   rw[e4]
   have HF:Hid (Km B n p w (.returned (.tuple #[.agg #[.int .i64 z.1.1,.int .i64 z.1.2.1,.string z.1.2.2,.slice z.2.1.1 z.2.2.length z.2.1.2],.int .i64 0])) (bK w4 w.heap.size 0 (.int .i64 z.1.1) (.int .i64 z.1.2.1) (.string z.1.2.2) (.slice z.2.1.1 z.2.2.length z.2.1.2))):=by
    refine⟨z,by rw[HEE.out];rfl,bZ HB4.out (Nat.le_refl _), ?_,HZ.out.2.2.1.mono fun b hb=>Or.inr (by omega), ?_⟩
    ·rw[aJ]
     exact In.off (fun b hb=>aA (by omega) _ _ _ _) HZ.out.2.2.1 HZ.out.2.1
    ·rw[show KZ n p=bM n p from by simpa using HTT.out]
     exact aW _ _ _ _ _ _ HZ.out.2.2.2 HS.out
   clear HX4 HX3 HZ HB4 c0 c1 c2 c3 e4 HTT
   go_wp2_with fail
   exact bodyPost_ret (v:=.tuple #[.agg #[.int .i64 z.1.1,.int .i64 z.1.2.1,.string z.1.2.2,.slice z.2.1.1 z.2.2.length z.2.1.2],.int .i64 0]) (by simp[results,Tryz.results23,go_sem,d0,d1,d2,d3]) rfl HF.out
  ·have d0:w3.cell? ⟨w.heap.size,0,none⟩=some (.int .i64 0):=ag HX3.out 0
   have d1:w3.cell? ⟨w.heap.size,1,none⟩=some (.int .i64 0):=ag HX3.out 1
   have d2:w3.cell? ⟨w.heap.size,2,none⟩=some (.string ⟨#[]⟩):=ag HX3.out 2
   have d3:w3.cell? ⟨w.heap.size,3,none⟩=some (.slice none 0 0):=ag HX3.out 3
   have f0:=fun j=>bE HX3.out j
   have hE1:(E !=0)=true:=by simpa using hE0
   clear HX3 HCP c0 c1 c2 c3
   go_wp2_with fail
   exact bodyPost_ret (v:=.tuple #[.agg #[.int .i64 0,.int .i64 0,.string .empty,.slice none 0 0],.int .i64 E]) (by simp[results,Tryz.results23,go_sem,d0,d1,d2,d3];rfl) rfl (Gj (bZ HB3.out (Nat.le_refl _)) HEE.out.symm hE0)
theorem oz (a:Option Addr) (l c:Nat) (w:World):
    Calls Tryz.prog 12 #[.slice a l c] w fun e w'=>e=.returned (.agg #[.int .i64 4,.int .i64 0,.string ⟨#[]⟩,.slice a l c])/\w'=w.alloc (.cells #[.int .i64 4,.int .i64 0,.string ⟨#[]⟩,.slice a l c] 30):=by
 go_enter Tryz.func12,Tryz.ntmps12
 go_wp2_with fail
 exact bodyPost_ret (v:=.agg #[.int .i64 4,.int .i64 0,.string ⟨#[]⟩,.slice a l c]) (by simp[results,Tryz.results12,go_sem]) rfl ⟨rfl,rfl⟩
theorem GrowT.ownAt {N B base k:Nat} {xs:List (Tm N)} {v:Value} {w0 wr W:World} (h:GrowT N B base xs v w0 wr) (hk:xs.length=k) (h3:Below wr.heap.size wr W):W.ownsRow base 30 4 v k (xs.flatMap (fP N)):=by
 subst hk
 exact own_below h.2.1 h3
theorem GrowT.appAt {N B base k:Nat} {xs:List (Tm N)} {v:Value} {w0 wr W w4:World} {g c:Nat} (h:GrowT N B base xs v w0 wr) (hk:xs.length=k) (hB:B<=base) (hb:base<=wr.heap.size) (h3:Below wr.heap.size wr W) (X:Tm N) (hX:In W.heap.size W N X) (hO:Off (fun b=>b<B∨wr.heap.size<=b) N X)
    (hown:w4.ownsRow base 30 4 (.slice (some ⟨g,0,none⟩) (k+1) c) (k+1) (xs.flatMap (fP N)++fP N X)) (hg:W.grownBy w4 v.ownBlock) (hat:v.ownBlock=some g∨g=W.heap.size):
    GrowT N B base (xs++ [X]) (.slice (some ⟨g,0,none⟩) (k+1) c) w0 w4:=by
 subst hk
 exact Grow.step (dm N) h hB hb h3 X hX hO hown hg hat
theorem qH (Z:World) (o:Obj) {g:Nat} (hg:g=Z.heap.size):(Z.alloc o).drew.heap[g]? =some o:=by
 subst hg
 exact heap_alloc_new Z o
theorem fG (Z:World) (o:Obj) {g:Nat} (hg:g=Z.heap.size):(Z.alloc o).heap[g]? =some o:=by
 subst hg
 exact heap_alloc_new Z o
def PL (pb:Nat) (name:ByteArray) (sv:Wd) (mv:Value):HLoc:=⟨pb,1,[.string name],[.int .i64 sv.1,.int .i64 sv.2,mv],132⟩
def MailAt (Mh:Nat->Prop) (ma:Option Addr) (vs:List Wd) (mc:Nat) (w:World):Prop:=
 (ma=none/\vs=[]/\mc=0)∨∃g mo cur,ma=some ⟨g,mo,none⟩/\¬Mh g/\w.heap[g]? =some (.cells cur 119 (0,0))/\vs.length<=mc/\mc<=maxLen/\mo+mc*2<=cur.size/\(cur.toList.drop mo).take (vs.length*2)=az vs
def PHas (N:Nat) (ws:List Wd) (nm:List ByteArray) (room:Int) (us:List Wd) (ts:List (Tm N)):Prop:=
 StandL ws nm N us ts/\(us.flatMap (mW ws N)).Nodup/\(∀y∈ts,aQ N y=0/\av N y=true)/\(ts.map (sz N)).sum<=(ws.length:Int)/\(ws.length:Int)<=room/\0<=room/\room<=1000/\nm.Nodup
structure PrAt (base pb:Nat) (name:ByteArray) (room:Int) (N:Nat) (s:Tm N) (ms:List (Tm N)) (xs:List (Wd×Tm N)) (nk:Nat) (M:Nat->Prop) (w:World) (ws:List Wd) (nm:List ByteArray) (sv:Wd) (vs:List Wd) (ma:Option Addr) (mc:Nat) (Mh:Nat->Prop):Prop where
 heap:HpAt base (PL pb name sv (.slice ma vs.length mc)) room ws nm Mh w
 mail:MailAt Mh ma vs mc w
 has:PHas N ws nm room (sv::vs++xs.map (·.1)) (s::ms++xs.map (·.2))
 len:vs.length=ms.length
 names:nm.length<=nk
 inM:∀b,Mh b->M b
 mailM:∀a,ma=some a->M a.block
theorem HpAt.box {base:Nat} {hp:HLoc} {room:Int} {ws:List Wd} {nm:List ByteArray} {M:Nat->Prop} {w:World} (h:HpAt base hp room ws nm M w):∃tv lv mv,HB hp room tv lv mv w/\∃ta tc,tv=.slice ta ws.length tc:=by
 obtain⟨tv,lv,mv,h1,h2,_⟩:=h
 refine⟨tv,lv,mv,h1, ?_⟩
 rcases h2.2 with⟨e,e0⟩|⟨g,c,cur,e,_⟩
 ·exact⟨none,0,by rw[e,e0]⟩
 ·exact⟨_,c,e⟩
theorem PL.cells {pb:Nat} {name:ByteArray} {sv:Wd} {mv:Value} {room:Int} {tv lv mp:Value} {w:World} (h:HB (PL pb name sv mv) room tv lv mp w):
    w.cell? ⟨pb,0,none⟩=some (.string name)/\w.cell? ⟨pb,5,none⟩=some (.int .i64 sv.1)/\w.cell? ⟨pb,5+1,none⟩=some (.int .i64 sv.2)/\w.cell? ⟨pb,7,none⟩=some mv/\(∀j,w.frozen? ⟨pb,j,none⟩=false)/\pb<w.heap.size:=by
 have h2:w.heap[pb]? =some (.cells #[.string name,.int .i64 room,tv,lv,mp,.int .i64 sv.1,.int .i64 sv.2,mv] 132):=h.2
 refine⟨?_, ?_, ?_, ?_,fun j=> ?_,(Array.getElem?_eq_some_iff.1 h2).1⟩
 all_goals simp[World.cell?,World.frozen?,h2]
def lD (N:Nat) (x:Tm N) (w:World) (e:Ending) (w':World):Prop:=∃y:Tm N,e=.returned (val N y)/\Hid (Below w.heap.size w w'/\In w'.heap.size w' N y/\Off (fun q=>w.heap.size<=q) N y/\same N y N x=true)
theorem Gp (pb N:Nat) (x:Tm (N+1)) (v:Wd) (w:World) (HG:Hid (∀w1,Below w.heap.size w w1->Calls Tryz.prog 80 #[.pointer (some ⟨pb,1,none⟩),.agg #[.int .i64 v.1,.int .i64 v.2]] w1 fun e w'=>∃y:Tm (N+1),e=.returned (.tuple #[.agg #[.int .i64 y.1.1,.int .i64 y.1.2.1,.string y.1.2.2,.slice y.2.1.1 y.2.2.length y.2.1.2],.int .i64 0])/\Hid (Below w1.heap.size w1 w'/\In w'.heap.size w' (N+1) y/\Off (fun q=>w1.heap.size<=q) (N+1) y/\same (N+1) y (N+1) x=true))):
    Calls Tryz.prog 53 #[.pointer (some ⟨pb,0,none⟩),.agg #[.int .i64 v.1,.int .i64 v.2]] w (lD (N+1) x w):=by
 go_enter Tryz.func53,Tryz.ntmps53
 go_wp2_with fail
 have HN:=hide (jb w (.cells #[.int .i64 v.1,.int .i64 v.2] 119) (.cells #[.int .i64 0,.int .i64 0,.string ⟨#[]⟩,.slice none 0 0] 30))
 have HNB:Hid (Below w.heap.size w ((w.alloc (.cells #[.int .i64 v.1,.int .i64 v.2] 119)).alloc (.cells #[.int .i64 0,.int .i64 0,.string ⟨#[]⟩,.slice none 0 0] 30))/\((w.alloc (.cells #[.int .i64 v.1,.int .i64 v.2] 119)).alloc (.cells #[.int .i64 0,.int .i64 0,.string ⟨#[]⟩,.slice none 0 0] 30)).heap.size=w.heap.size+1+1):=⟨by go_grown,by simp⟩
 generalize hW0:(w.alloc _).alloc _=W0
 rw[hW0]at HN HNB
 clear hW0
 have hz0:W0.heap.size=w.heap.size+1+1:=HNB.out.2
 have HK:Hid (∀w',Below W0.heap.size W0 w'->w'.cell? ⟨w.heap.size,0,none⟩=some (.int .i64 v.1)/\w'.cell? ⟨w.heap.size,1,none⟩=some (.int .i64 v.2)):=fun w' h=>by
  have h1:=(h.block w.heap.size (by omega)).trans HN.out.1
  exact⟨ag h1 0,ag h1 1⟩
 obtain⟨k0,k1⟩:=HK.out W0 (Below.refl _ _)
 have HD0:Hid (Below W0.heap.size W0 W0.drew):=(Below.refl _ _).drew
 have HD1:Hid (Below W0.heap.size W0 (W0.alloc (.cells #[.int .i64 0,.int .i64 0,.string ⟨#[]⟩,.slice none 0 0] 30)).drew):=(show Below _ _ _ by go_grown)
 have HNX:Hid ((W0.alloc (.cells #[.int .i64 0,.int .i64 0,.string ⟨#[]⟩,.slice none 0 0] 30)).drew.heap[W0.heap.size]? =some (.cells #[.int .i64 0,.int .i64 0,.string ⟨#[]⟩,.slice none 0 0] 30)/\(W0.alloc (.cells #[.int .i64 0,.int .i64 0,.string ⟨#[]⟩,.slice none 0 0] 30)).drew.heap.size=W0.heap.size+1):=⟨qH W0 _ rfl,by simp⟩
 clear hz0
 go_region_held3 (fun w'=>w'.cell? ⟨w.heap.size,0,none⟩=some (.int .i64 v.1)/\w'.cell? ⟨w.heap.size,1,none⟩=some (.int .i64 v.2)) (first|(go_keep;done)|with_reducible exact HK.out _ HD0.out|with_reducible exact HK.out _ HD1.out|exact HK.out _ HB1.out|exact HKA.out _|exact HKS.out _ _ _ _|exact HKT.out _ _ _ _ _)
  ((first
   | (go_at_call 80;refine(HG.out _ (HNB.out.1.trans (HD0.out.mono HNB.out.1.size))).mono ?_;rintro e w1 ⟨y,rfl,HY⟩;have HB1:=hide (HD0.out.trans (HY.out.1.mono HD0.out.size));have HKA:Hid (∀o:Obj,(w1.alloc o).cell? ⟨w.heap.size,0,none⟩=some (.int .i64 v.1)/\(w1.alloc o).cell? ⟨w.heap.size,1,none⟩=some (.int .i64 v.2)):=fun o=>HK.out _ (HB1.out.trans (au.mono HB1.out.size));have HKT:Hid (∀(o:Obj) (a b c d:Value),(bK (w1.alloc o) w1.heap.size 0 a b c d).cell? ⟨w.heap.size,0,none⟩=some (.int .i64 v.1)/\(bK (w1.alloc o) w1.heap.size 0 a b c d).cell? ⟨w.heap.size,1,none⟩=some (.int .i64 v.2)):=fun o a b c d=>by have hs:=HB1.out.size;have hz:=HNB.out.2;exact⟨(aK (aA (by omega) a b c d) 0).trans (HKA.out o).1,(aK (aA (by omega) a b c d) 1).trans (HKA.out o).2⟩)
   | (go_at_call 80;refine(HG.out _ (HNB.out.1.trans (HD1.out.mono HNB.out.1.size))).mono ?_;rintro e w1 ⟨y,rfl,HY⟩;have HB1:=hide (HD1.out.trans (HY.out.1.mono HD1.out.size));have HX1:=hide ((HY.out.1.block _ (by have:=HNX.out.2;omega)).trans HNX.out.1);have hq0:w1.cell? ⟨W0.heap.size,0,none⟩=some (.int .i64 0):=ag HX1.out 0;have hq1:w1.cell? ⟨W0.heap.size,1,none⟩=some (.int .i64 0):=ag HX1.out 1;have hq2:w1.cell? ⟨W0.heap.size,2,none⟩=some (.string ⟨#[]⟩):=ag HX1.out 2;have hq3:w1.cell? ⟨W0.heap.size,3,none⟩=some (.slice none 0 0):=ag HX1.out 3;have hqf:=fun j=>bE HX1.out j;have HKS:Hid (∀a b c d:Value,(bK w1 W0.heap.size 0 a b c d).cell? ⟨w.heap.size,0,none⟩=some (.int .i64 v.1)/\(bK w1 W0.heap.size 0 a b c d).cell? ⟨w.heap.size,1,none⟩=some (.int .i64 v.2)):=fun a b c d=>⟨(aK (aA (by have:=HNB.out.2;omega) a b c d) 0).trans (HK.out _ HB1.out).1,(aK (aA (by have:=HNB.out.2;omega) a b c d) 1).trans (HK.out _ HB1.out).2⟩)))
 ·have hz:=HNB.out.2
  have HR1:Hid ((w1.alloc (.cells #[.int .i64 y.1.1,.int .i64 y.1.2.1,.string y.1.2.2,.slice y.2.1.1 y.2.2.length y.2.1.2] 30)).heap[w.heap.size+1]? =some (.cells #[.int .i64 0,.int .i64 0,.string ⟨#[]⟩,.slice none 0 0] 30)):=(au.block _ (by have:=HB1.out.size;omega)).trans ((HB1.out.block _ (by omega)).trans HN.out.2)
  have HQ5:Hid ((w1.alloc (.cells #[.int .i64 y.1.1,.int .i64 y.1.2.1,.string y.1.2.2,.slice y.2.1.1 y.2.2.length y.2.1.2] 30)).heap[w1.heap.size]? =some (.cells #[.int .i64 y.1.1,.int .i64 y.1.2.1,.string y.1.2.2,.slice y.2.1.1 y.2.2.length y.2.1.2] 30)):=heap_alloc_new _ _
  have HF:Hid (Below w.heap.size w (w1.alloc (.cells #[.int .i64 y.1.1,.int .i64 y.1.2.1,.string y.1.2.2,.slice y.2.1.1 y.2.2.length y.2.1.2] 30))/\In (w1.alloc (.cells #[.int .i64 y.1.1,.int .i64 y.1.2.1,.string y.1.2.2,.slice y.2.1.1 y.2.2.length y.2.1.2] 30)).heap.size (w1.alloc (.cells #[.int .i64 y.1.1,.int .i64 y.1.2.1,.string y.1.2.2,.slice y.2.1.1 y.2.2.length y.2.1.2] 30)) (N+1) y/\Off (fun q=>w.heap.size+2<=q) (N+1) y):=⟨(HNB.out.1.trans (HB1.out.mono HNB.out.1.size)).trans (au.mono (HNB.out.1.trans (HB1.out.mono HNB.out.1.size)).size),(HY.out.2.1.below au).mono (by simp),HY.out.2.2.1.mono fun q (hq:W0.heap.size<=q)=>by omega⟩
  have HWW:Hid (∃w3,w3=(w1.alloc (.cells #[.int .i64 y.1.1,.int .i64 y.1.2.1,.string y.1.2.2,.slice y.2.1.1 y.2.2.length y.2.1.2] 30))):=⟨_,rfl⟩
  obtain⟨w3,hw3⟩:=HWW.out
  rw[<-hw3]at HR1 HQ5 HF ⊢
  clear hw3 HWW hz
  have r0:w3.cell? ⟨w.heap.size+1,0,none⟩=some (.int .i64 0):=ag HR1.out 0
  have r1:w3.cell? ⟨w.heap.size+1,1,none⟩=some (.int .i64 0):=ag HR1.out 1
  have r2:w3.cell? ⟨w.heap.size+1,2,none⟩=some (.string ⟨#[]⟩):=ag HR1.out 2
  have r3:w3.cell? ⟨w.heap.size+1,3,none⟩=some (.slice none 0 0):=ag HR1.out 3
  have rf:=fun j=>bE HR1.out j
  have p0:w3.cell? ⟨w1.heap.size,0,none⟩=some (.int .i64 y.1.1):=ag HQ5.out 0
  have p1:w3.cell? ⟨w1.heap.size,1,none⟩=some (.int .i64 y.1.2.1):=ag HQ5.out 1
  have p2:w3.cell? ⟨w1.heap.size,2,none⟩=some (.string y.1.2.2):=ag HQ5.out 2
  have p3:w3.cell? ⟨w1.heap.size,3,none⟩=some (.slice y.2.1.1 y.2.2.length y.2.1.2):=ag HQ5.out 3
  go_wp2_with fail
  refine bodyPost_ret (v:=.agg #[.int .i64 y.1.1,.int .i64 y.1.2.1,.string y.1.2.2,.slice y.2.1.1 y.2.2.length y.2.1.2]) (by simp[results,Tryz.results53,go_sem,r0,r1,r2,r3]) rfl ?_
  refine⟨y,rfl,bZ HF.out.1 (by omega), ?_,HF.out.2.2.mono fun q hq=>by omega,HY.out.2.2.2⟩
  have e:=In.off (w':=bK w3 (w.heap.size+1) 0 (.int .i64 y.1.1) (.int .i64 y.1.2.1) (.string y.1.2.2) (.slice y.2.1.1 y.2.2.length y.2.1.2)) (fun b (hb:w.heap.size+2<=b)=>aA (by omega) _ _ _ _) HF.out.2.2 HF.out.2.1
  rw[<-aJ (w:=w3) (g:=w.heap.size+1) (o:=0) (.int .i64 y.1.1) (.int .i64 y.1.2.1) (.string y.1.2.2) (.slice y.2.1.1 y.2.2.length y.2.1.2)]at e
  exact e
 ·have hz:=HNB.out.2
  have hz1:=HNX.out.2
  have HR1:Hid ((bK w1 W0.heap.size 0 (.int .i64 y.1.1) (.int .i64 y.1.2.1) (.string y.1.2.2) (.slice y.2.1.1 y.2.2.length y.2.1.2)).heap[w.heap.size+1]? =some (.cells #[.int .i64 0,.int .i64 0,.string ⟨#[]⟩,.slice none 0 0] 30)):=(aA (by omega) _ _ _ _).trans ((HB1.out.block _ (by omega)).trans HN.out.2)
  have HQ5:Hid ((bK w1 W0.heap.size 0 (.int .i64 y.1.1) (.int .i64 y.1.2.1) (.string y.1.2.2) (.slice y.2.1.1 y.2.2.length y.2.1.2)).heap[W0.heap.size]? =some (.cells #[.int .i64 y.1.1,.int .i64 y.1.2.1,.string y.1.2.2,.slice y.2.1.1 y.2.2.length y.2.1.2] 30)):=(by
   show _=_
   simp[bK,World.setCell,Array.getElem?_modify,HX1.out])
  have HF:Hid (Below w.heap.size w (bK w1 W0.heap.size 0 (.int .i64 y.1.1) (.int .i64 y.1.2.1) (.string y.1.2.2) (.slice y.2.1.1 y.2.2.length y.2.1.2))/\In (bK w1 W0.heap.size 0 (.int .i64 y.1.1) (.int .i64 y.1.2.1) (.string y.1.2.2) (.slice y.2.1.1 y.2.2.length y.2.1.2)).heap.size (bK w1 W0.heap.size 0 (.int .i64 y.1.1) (.int .i64 y.1.2.1) (.string y.1.2.2) (.slice y.2.1.1 y.2.2.length y.2.1.2)) (N+1) y/\Off (fun q=>w.heap.size+2<=q) (N+1) y):=by
   refine⟨bZ (HNB.out.1.trans (HB1.out.mono HNB.out.1.size)) (by omega), ?_,HY.out.2.2.1.mono fun q hq=> ?_⟩
   ·rw[aJ]
    exact In.off (fun b (hb:(W0.alloc (.cells #[.int .i64 0,.int .i64 0,.string ⟨#[]⟩,.slice none 0 0] 30)).drew.heap.size<=b)=>aA (by omega) _ _ _ _) HY.out.2.2.1 HY.out.2.1
   ·have hq':(W0.alloc (.cells #[.int .i64 0,.int .i64 0,.string ⟨#[]⟩,.slice none 0 0] 30)).drew.heap.size<=q:=hq
    omega
  have HWW:Hid (∃w3,w3=(bK w1 W0.heap.size 0 (.int .i64 y.1.1) (.int .i64 y.1.2.1) (.string y.1.2.2) (.slice y.2.1.1 y.2.2.length y.2.1.2))):=⟨_,rfl⟩
  obtain⟨w3,hw3⟩:=HWW.out
  change Exit.then _ _ Exit.normal _ (bK w1 W0.heap.size 0 (.int .i64 y.1.1) (.int .i64 y.1.2.1) (.string y.1.2.2) (.slice y.2.1.1 y.2.2.length y.2.1.2))
  rw[<-hw3]at HR1 HQ5 HF ⊢
  clear hw3 HWW hz hz1
  have r0:w3.cell? ⟨w.heap.size+1,0,none⟩=some (.int .i64 0):=ag HR1.out 0
  have r1:w3.cell? ⟨w.heap.size+1,1,none⟩=some (.int .i64 0):=ag HR1.out 1
  have r2:w3.cell? ⟨w.heap.size+1,2,none⟩=some (.string ⟨#[]⟩):=ag HR1.out 2
  have r3:w3.cell? ⟨w.heap.size+1,3,none⟩=some (.slice none 0 0):=ag HR1.out 3
  have rf:=fun j=>bE HR1.out j
  have p0:w3.cell? ⟨W0.heap.size,0,none⟩=some (.int .i64 y.1.1):=ag HQ5.out 0
  have p1:w3.cell? ⟨W0.heap.size,1,none⟩=some (.int .i64 y.1.2.1):=ag HQ5.out 1
  have p2:w3.cell? ⟨W0.heap.size,2,none⟩=some (.string y.1.2.2):=ag HQ5.out 2
  have p3:w3.cell? ⟨W0.heap.size,3,none⟩=some (.slice y.2.1.1 y.2.2.length y.2.1.2):=ag HQ5.out 3
  go_wp2_with fail
  refine bodyPost_ret (v:=.agg #[.int .i64 y.1.1,.int .i64 y.1.2.1,.string y.1.2.2,.slice y.2.1.1 y.2.2.length y.2.1.2]) (by simp[results,Tryz.results53,go_sem,r0,r1,r2,r3]) rfl ?_
  refine⟨y,rfl,bZ HF.out.1 (by omega), ?_,HF.out.2.2.mono fun q hq=>by omega,HY.out.2.2.2⟩
  have e:=In.off (w':=bK w3 (w.heap.size+1) 0 (.int .i64 y.1.1) (.int .i64 y.1.2.1) (.string y.1.2.2) (.slice y.2.1.1 y.2.2.length y.2.1.2)) (fun b (hb:w.heap.size+2<=b)=>aA (by omega) _ _ _ _) HF.out.2.2 HF.out.2.1
  rw[<-aJ (w:=w3) (g:=w.heap.size+1) (o:=0) (.int .i64 y.1.1) (.int .i64 y.1.2.1) (.string y.1.2.2) (.slice y.2.1.1 y.2.2.length y.2.1.2)]at e
  exact e
theorem nD {n:Nat} {x:Tm n} (h:aQ n x=0):ai ⟨n,x⟩:=ax.2 (aN.1 h).1
section
variable {base pb:Nat} {name:ByteArray} {room:Int} {N:Nat} {s:Tm (N+1)} {ms:List (Tm (N+1))} {xs:List (Wd×Tm (N+1))} {nk:Nat} {M:Nat->Prop} {w:World} {ws:List Wd} {nm:List ByteArray} {sv:Wd} {vs:List Wd} {ma:Option Addr} {mc:Nat} {Mh:Nat->Prop}
theorem PrAt.later (h:PrAt base pb name room (N+1) s ms xs nk M w ws nm sv vs ma mc Mh) {w1:World} (hb:Below w.heap.size w w1):PrAt base pb name room (N+1) s ms xs nk M w1 ws nm sv vs ma mc Mh:=by
 refine⟨(h.heap.later hb).mono fun b hb=>hb.1, ?_,h.has,h.len,h.names,h.inM,h.mailM⟩
 rcases h.mail with e|⟨g,mo,cur,e1,e2,e3,e4⟩
 ·exact Or.inl e
 ·exact Or.inr ⟨g,mo,cur,e1,e2,(hb.block g (Array.getElem?_eq_some_iff.1 e3).1).trans e3,e4⟩
theorem PrAt.read (h:PrAt base pb name room (N+1) s ms xs nk M w ws nm sv vs ma mc Mh) (hnk:nk<=50000) {i:Nat} {v:Wd} {x:Tm (N+1)} (hv:(sv::vs++xs.map (·.1))[i]? =some v) (hx:(s::ms++xs.map (·.2))[i]? =some x):
    Calls Tryz.prog 53 #[.pointer (some ⟨pb,0,none⟩),.agg #[.int .i64 v.1,.int .i64 v.2]] w (lD (N+1) x w):=by
 obtain⟨k1,k2,k3,k4,k5,k6,k7,k8⟩:=h.has
 have hc:=k3 x (List.mem_of_getElem? hx)
 have hn:=h.names
 exact Gp pb N x v w fun w1 hb=>Kz (N+1) x v base (PL pb name sv (.slice ma vs.length mc)) room ws nm Mh w1 ((h.later hb).heap) (k1.2 i v x hv hx) (nD hc.1) hc.2 (by omega) (by omega)
end
theorem Ez (pb N:Nat) (x:Tm (N+1)) (v:Wd) (w:World) (hpw:pb<w.heap.size) (c5:w.cell? ⟨pb,5,none⟩=some (.int .i64 v.1)) (c6:w.cell? ⟨pb,5+1,none⟩=some (.int .i64 v.2))
    (HR:Hid (∀w1,Below w.heap.size w w1->Calls Tryz.prog 53 #[.pointer (some ⟨pb,0,none⟩),.agg #[.int .i64 v.1,.int .i64 v.2]] w1 (lD (N+1) x w1))):
    Calls Tryz.prog 31 #[.pointer (some ⟨pb,0,none⟩)] w (lD (N+1) x w):=by
 go_enter Tryz.func31,Tryz.ntmps31
 go_wp2_with fail
 refine(HR.out _ au).mono ?_
 rintro e w1 ⟨y,rfl,HY⟩
 rw[show val (N+1) y=.agg #[.int .i64 y.1.1,.int .i64 y.1.2.1,.string y.1.2.2,.slice y.2.1.1 y.2.2.length y.2.1.2]from rfl]
 have HX1:=hide (pu w _ _ _ _ _ HY.out.1)
 have HB1:Hid (Below w.heap.size w w1):=au.trans (HY.out.1.mono (by simp))
 have r0:w1.cell? ⟨w.heap.size,0,none⟩=some (.int .i64 0):=ag HX1.out 0
 have r1:w1.cell? ⟨w.heap.size,1,none⟩=some (.int .i64 0):=ag HX1.out 1
 have r2:w1.cell? ⟨w.heap.size,2,none⟩=some (.string ⟨#[]⟩):=ag HX1.out 2
 have r3:w1.cell? ⟨w.heap.size,3,none⟩=some (.slice none 0 0):=ag HX1.out 3
 have rf:=fun j=>bE HX1.out j
 clear c5 c6
 go_wp2_with fail
 refine bodyPost_ret (v:=.agg #[.int .i64 y.1.1,.int .i64 y.1.2.1,.string y.1.2.2,.slice y.2.1.1 y.2.2.length y.2.1.2]) (by simp[results,Tryz.results31,go_sem,r0,r1,r2,r3]) rfl ?_
 have ho:Off (fun q=>w.heap.size+1<=q) (N+1) y:=HY.out.2.2.1.mono fun q hq=>by simpa using hq
 refine⟨y,rfl,bZ HB1.out (Nat.le_refl _), ?_,ho.mono fun q hq=>by omega,HY.out.2.2.2⟩
 have e:=In.off (w':=bK w1 w.heap.size 0 (.int .i64 y.1.1) (.int .i64 y.1.2.1) (.string y.1.2.2) (.slice y.2.1.1 y.2.2.length y.2.1.2)) (fun b (hb:w.heap.size+1<=b)=>aA (by omega) _ _ _ _) ho HY.out.2.1
 rw[<-aJ (w:=w1) (g:=w.heap.size) (o:=0) (.int .i64 y.1.1) (.int .i64 y.1.2.1) (.string y.1.2.2) (.slice y.2.1.1 y.2.2.length y.2.1.2)]at e
 exact e
theorem MailAt.word {Mh:Nat->Prop} {ma:Option Addr} {vs:List Wd} {mc:Nat} {w:World} (h:MailAt Mh ma vs mc w) {i:Nat} {v:Wd} (hv:vs[i]? =some v):∃g mo,ma=some ⟨g,mo,none⟩/\g<w.heap.size/\w.cell? ⟨g,mo+i*2,none⟩=some (.int .i64 v.1)/\w.cell? ⟨g,mo+i*2+1,none⟩=some (.int .i64 v.2):=by
 rcases h with⟨_,e,_⟩|⟨g,mo,cur,e1,_,e3,e4,_,e6,e7⟩
 ·rw[e]at hv;simp at hv
 ·have hil:=(List.getElem?_eq_some_iff.1 hv).1
  have hat:∀(l:List Wd) (i:Nat) (v:Wd),l[i]? =some v->(az l)[i*2]? =some (.int .i64 v.1)/\(az l)[i*2+1]? =some (.int .i64 v.2):=by
   intro l
   induction l with
   | nil=>intro i v h;simp at h
   | cons a l ih=>
    intro i v h
    cases i with
    | zero=>simp at h;subst h;simp[az,wd2]
    | succ i=>
     have:=ih i v (by simpa using h)
     simp only[az,List.flatMap_cons,wd2]at this ⊢
     rw[show (i+1)*2=i*2+2 by omega,show i*2+2+1=(i*2+1)+2 by omega]
     simpa using this
  have hk:∀k,k<vs.length*2->w.cell? ⟨g,mo+k,none⟩=(az vs)[k]? :=fun k hk=>by
   rw[<-e7,List.getElem?_take,if_pos hk,List.getElem?_drop,Array.getElem?_toList]
   simp[World.cell?,e3]
  refine⟨g,mo,e1,(Array.getElem?_eq_some_iff.1 e3).1, ?_, ?_⟩
  ·rw[hk (i*2) (by omega)];exact(hat vs i v hv).1
  ·rw[show mo+i*2+1=mo+(i*2+1) by omega,hk (i*2+1) (by omega)];exact(hat vs i v hv).2
def FV (N:Nat) (ms:List (Tm N)) (w:World) (e:Ending) (w':World):Prop:=∃(ys:List (Tm N)) (L:Nat) (a:Option Addr) (c:Nat),e=.returned (.slice a L c)/\Hid (ys.length=L/\GrowT N 0 w.heap.size ys (.slice a L c) w w'/\ah (fun a b=>same N a N b) ys ms=true)
theorem He (pb N:Nat) (ms:List (Tm (N+1))) (vs:List Wd) (L:Nat) (ma:Option Addr) (mc:Nat) (w:World) (hL:Hid (vs.length=L)) (hLm:Hid (ms.length=L)) (hL20:L<=1000) (_hpw:pb<w.heap.size) (c7:w.cell? ⟨pb,7,none⟩=some (.slice ma L mc))
    (HW:Hid (∀w1,Below w.heap.size w w1->∀(i:Nat) (v:Wd),vs[i]? =some v->∃g mo,ma=some ⟨g,mo,none⟩/\g<w.heap.size/\w1.cell? ⟨g,mo+i*2,none⟩=some (.int .i64 v.1)/\w1.cell? ⟨g,mo+i*2+1,none⟩=some (.int .i64 v.2)))
    (HR:Hid (∀w1,Below w.heap.size w w1->∀(i:Nat) (v:Wd) (x:Tm (N+1)),vs[i]? =some v->ms[i]? =some x->Calls Tryz.prog 53 #[.pointer (some ⟨pb,0,none⟩),.agg #[.int .i64 v.1,.int .i64 v.2]] w1 (lD (N+1) x w1))):
    Calls Tryz.prog 32 #[.pointer (some ⟨pb,0,none⟩)] w (FV (N+1) ms w):=by
 obtain⟨it,hit,htz0,htz1,htz2⟩:=info_parts gu
 have HT:=hide (⟨hit,htz0,htz1,htz2⟩:_/\_/\_/\_)
 clear hit htz0 htz1 htz2
 go_enter Tryz.func32,Tryz.ntmps32
 go_wp2_with fail
 go_loopw [3,11] (fun v i wr=>∃(k:Nat) (a:Option Addr) (c:Nat) (ys:List (Tm (N+1))),k<=L/\i=.int .i64 k/\v=.slice a k c/\Hid (ys.length=k/\GrowT (N+1) 0 w.heap.size ys (.slice a k c) w wr/\ah (fun a b=>same (N+1) a (N+1) b) ys (ms.take k)=true)) (fun _ i _=>L-(intOf i).toNat)
 case atStart=>exact⟨0,none,0,[],by omega,rfl,rfl,rfl,Grow.nil _,by simp[ah]⟩
 case round=>
  obtain⟨k,a,c,ys,hk,rfl,rfl,HG⟩:=hrel
  have HBW:Hid (Below w.heap.size w wr):=HG.out.2.1.1
  by_cases hlt:k<L
  rotate_left
  ·obtain rfl:k=L:=by omega
   go_wp2_with fail
   go_ret
   refine⟨ys,k,a,c,rfl,HG.out.1,HG.out.2.1, ?_⟩
   have h:=HG.out.2.2
   rw[List.take_of_length_le (by rw[hLm.out];omega)]at h
   exact h
  ·obtain⟨v,hv⟩:∃v,vs[k]? =some v:=⟨vs[k]'(by rw[hL.out];exact hlt),List.getElem?_eq_getElem _⟩
   obtain⟨x,hx⟩:∃x,ms[k]? =some x:=⟨ms[k]'(by rw[hLm.out];exact hlt),List.getElem?_eq_getElem _⟩
   have HX:=hide hx
   have HRk:Hid (∀w1,Below w.heap.size w w1->Calls Tryz.prog 53 #[.pointer (some ⟨pb,0,none⟩),.agg #[.int .i64 v.1,.int .i64 v.2]] w1 (lD (N+1) x w1)):=fun w1 hb=>HR.out w1 hb k v x hv hx
   obtain⟨g,mo,rfl,hg,d0,d1⟩:=HW.out wr HBW.out k v hv
   clear hv hx
   have hk0:(0:Int)<=(k:Int):=by omega
   have hkL:(k:Int)<(L:Int):=by omega
   have hgw:g<wr.heap.size:=by have:=HBW.out.size;omega
   go_wp2_with fail
   refine(HRk.out _ (HBW.out.trans (au.mono HBW.out.size))).mono ?_
   rintro e w2 ⟨y,rfl,HY⟩
   rw[show val (N+1) y=.agg #[.int .i64 y.1.1,.int .i64 y.1.2.1,.string y.1.2.2,.slice y.2.1.1 y.2.2.length y.2.1.2]from rfl]
   have HB2:Hid (Below wr.heap.size wr w2):=au.trans (HY.out.1.mono (by simp))
   have HBS:Hid (Below wr.heap.size wr (w2.alloc (.cells #[.int .i64 y.1.1,.int .i64 y.1.2.1,.string y.1.2.2,.slice y.2.1.1 y.2.2.length y.2.1.2] 30))/\(w2.alloc (.cells #[.int .i64 y.1.1,.int .i64 y.1.2.1,.string y.1.2.2,.slice y.2.1.1 y.2.2.length y.2.1.2] 30)).heap.size=w2.heap.size+1/\(w2.alloc (.cells #[.int .i64 y.1.1,.int .i64 y.1.2.1,.string y.1.2.2,.slice y.2.1.1 y.2.2.length y.2.1.2] 30)).heap[w2.heap.size]? =some (.cells #[.int .i64 y.1.1,.int .i64 y.1.2.1,.string y.1.2.2,.slice y.2.1.1 y.2.2.length y.2.1.2] 30)/\In (w2.alloc (.cells #[.int .i64 y.1.1,.int .i64 y.1.2.1,.string y.1.2.2,.slice y.2.1.1 y.2.2.length y.2.1.2] 30)).heap.size (w2.alloc (.cells #[.int .i64 y.1.1,.int .i64 y.1.2.1,.string y.1.2.2,.slice y.2.1.1 y.2.2.length y.2.1.2] 30)) (N+1) y/\Off (fun b=>b<0∨wr.heap.size<=b) (N+1) y):=by
    have h:Below w2.heap.size w2 (w2.alloc (.cells #[.int .i64 y.1.1,.int .i64 y.1.2.1,.string y.1.2.2,.slice y.2.1.1 y.2.2.length y.2.1.2] 30)):=au
    refine⟨HB2.out.trans (h.mono HB2.out.size),by simp,heap_alloc_new _ _,(HY.out.2.1.below h).mono h.size,HY.out.2.2.1.mono fun b hb=>Or.inr ?_⟩
    have:wr.heap.size+1<=b:=by simpa using hb
    omega
   have HAP:=fun(g4 c4:Nat) (w4:World) hown hgrow hat=>hide (HG.out.2.1.appAt (W:=(w2.alloc (.cells #[.int .i64 y.1.1,.int .i64 y.1.2.1,.string y.1.2.2,.slice y.2.1.1 y.2.2.length y.2.1.2] 30))) (w4:=w4) (g:=g4) (c:=c4) HG.out.1 (Nat.zero_le _) HBW.out.size HBS.out.1 y HBS.out.2.2.2.1 HBS.out.2.2.2.2 hown hgrow hat)
   have HOW:=hide (HG.out.2.1.ownAt HG.out.1 HBS.out.1)
   have hsz:w.heap.size<=w2.heap.size:=by have:=HBW.out.size;have:=HB2.out.size;omega
   clear d0 d1
   go_wp2_with (at_builtin;refine wpList_append_lies _ rfl _ _ 28 rfl w.heap.size 30 it _ 4 56 Tryz.underlying28 HT.out.1 HT.out.2.1 HT.out.2.2.1 HT.out.2.2.2 rfl (by decide) (.slice a k c) k (ys.flatMap (fP (N+1))) (by simp[Act.eval]) HOW.out ⟨w2.heap.size,0,none⟩ 1 1 (fP (N+1) y) (by simp[Act.eval]) rfl (World.news_of_block (cs:= #[.int .i64 y.1.1,.int .i64 y.1.2.1,.string y.1.2.2,.slice y.2.1.1 y.2.2.length y.2.1.2]) (t:=30) (fr:=(0,0)) HBS.out.2.2.1) (uw _ _) (by decide) (by unfold maxLen;omega) (by omega) (by have:=HBS.out.2.1;omega) (w2.heap.size+1) HBS.out.2.1 ?_;intro g4 c4 w4 hown4 hgrow4 hat4 hlt4;have HS4:=HAP g4 c4 w4 hown4 hgrow4 (by rw[HBS.out.2.1];exact hat4);clear hown4 hgrow4 hat4 hlt4 HAP HOW)
   go_roundw
   case rel=>
    refine⟨k+1,some ⟨g4,0,none⟩,c4,ys++ [y],by omega,by go_num,rfl,by rw[List.length_append,HG.out.1];rfl,HS4.out, ?_⟩
    rw[List.take_add_one,HX.out]
    exact gK _ _ _ _ _ HG.out.2.2 HY.out.2.2.2
   case measure=>simp[intOf];omega
section
variable {base pb:Nat} {name:ByteArray} {room:Int} {N:Nat} {s:Tm (N+1)} {ms:List (Tm (N+1))} {xs:List (Wd×Tm (N+1))} {nk:Nat} {M:Nat->Prop} {w:World} {ws:List Wd} {nm:List ByteArray} {sv:Wd} {vs:List Wd} {ma:Option Addr} {mc:Nat} {Mh:Nat->Prop}
theorem PrAt.state (h:PrAt base pb name room (N+1) s ms xs nk M w ws nm sv vs ma mc Mh) (hnk:nk<=50000):Calls Tryz.prog 31 #[.pointer (some ⟨pb,0,none⟩)] w (lD (N+1) s w):=by
 obtain⟨tv,lv,mv,h1,_⟩:=h.heap.box
 obtain⟨_,c5,c6,_,_,hpw⟩:=PL.cells h1
 exact Ez pb N s sv w hpw c5 c6 fun w1 hb=>(h.later hb).read hnk (i:=0) (by simp) (by simp)
theorem PrAt.mails (h:PrAt base pb name room (N+1) s ms xs nk M w ws nm sv vs ma mc Mh) (hnk:nk<=50000) (h20:ms.length<=1000):Calls Tryz.prog 32 #[.pointer (some ⟨pb,0,none⟩)] w (FV (N+1) ms w):=by
 obtain⟨tv,lv,mv,h1,_⟩:=h.heap.box
 obtain⟨_,_,_,c7,_,hpw⟩:=PL.cells h1
 have hl:=h.len
 refine He pb N ms vs vs.length ma mc w rfl hl.symm (by omega) hpw c7 (fun w1 hb i v hv=> ?_) (fun w1 hb i v x hv hx=> ?_)
 ·obtain⟨g,mo,e1,e2,e3,e4⟩:=h.mail.word hv
  exact⟨g,mo,e1,e2,(af hb _ _ e2).trans e3,(af hb _ _ e2).trans e4⟩
 ·have hil:=(List.getElem?_eq_some_iff.1 hv).1
  exact(h.later hb).read hnk (i:=i+1) (by rw[List.cons_append,List.getElem?_cons_succ,List.getElem?_append_left hil];exact hv) (by rw[List.cons_append,List.getElem?_cons_succ,List.getElem?_append_left (by omega)];exact hx)
end
theorem xg {base:Nat} {v:Value} {n m xc:Nat} {xs:List Value} {ps:List Wd} {xa:Option Addr} {w:World} (ty:TypeId) (hown:w.ownsRow base 119 2 v n xs) (hs:dO w ps xa) (hm:ps.length=m) (h63:n+m<=200000) (hbase:base<=w.heap.size):
    ∃a' c' w',(Builtin.append_ #[123,123] ty #[v,.slice xa m xc]).run Tryz.prog w=.ok (.slice a' (n+m) c') w'/\w'.ownsRow base 119 2 (.slice a' (n+m) c') (n+m) (xs++az ps)/\w.grownBy w' v.ownBlock/\((Value.slice a' (n+m) c').ownBlock=v.ownBlock∨(Value.slice a' (n+m) c').ownBlock=some w.heap.size):=by
 obtain⟨it,hit,htz0,htz1,htz2⟩:=info_parts jJ
 have form:∀{w':World} {v':Value} {k:Nat} {ys:List Value},w'.ownsRow base 119 2 v' k ys->∃a c,v'=.slice a k c:=fun h=>by
  rcases h.2 with⟨rfl,rfl⟩|⟨g,cap,cur,rfl,_⟩
  ·exact⟨none,0,rfl⟩
  ·exact⟨_,cap,rfl⟩
 rcases hs with rfl|⟨ad,rfl,hc⟩
 ·obtain rfl:m=0:=hm.symm
  obtain⟨b,cap,hv,hle⟩:∃b cap,v=.slice b n cap/\n<=cap:=by
   rcases hown.2 with⟨rfl,rfl⟩|⟨g,cap,cur,rfl,_,_,h,_⟩
   ·exact⟨none,0,rfl,Nat.le_refl _⟩
   ·exact⟨_,cap,rfl,h⟩
  subst hv
  exact⟨b,cap,w,lN w _ _ ty _ _ it Tryz.underlying123 Tryz.underlying123 hit b xa n cap xc hle,by simpa [az]using hown,World.grownBy.refl _ _,Or.inl rfl⟩
 ·obtain⟨v',w',h1,h2,h3,_,h5⟩:=run_append_own_at (P:=Tryz.prog) w base 123 ty 119 it _ 2 16 Tryz.underlying123 hit htz0 htz1 htz2 rfl (by decide) _ n xs hown ad m xc (az ps) (by rw[bf,hm]) hc (oU _) (by unfold maxLen;omega) (by omega) hbase
  obtain⟨a',c',rfl⟩:=form h2
  exact⟨a',c',w',h1,h2,h3,h5⟩
theorem wE {w:World} {ops:Array Oper} {o:Oper} {a:Act} {K:Act->World->Prop} {Q:Exit->Act->World->Prop} {E:Prop} (hgd:o.guard=none) (s x:Operand) (ho:o.op=.call {callee:=.builtin .append,args:= #[s,x],argTypes:= #[123,123]})
    {base:Nat} {v:Value} {n m xc:Nat} {xs:List Value} {ps:List Wd} {xa:Option Addr} (hs:a.eval s=v) (hx:a.eval x=.slice xa m xc) (hown:w.ownsRow base 119 2 v n xs) (hw:dO w ps xa) (hm:ps.length=m) (h63:n+m<=200000) (hbase:base<=w.heap.size)
    (hK:∀a' c' w',w'.ownsRow base 119 2 (.slice a' (n+m) c') (n+m) (xs++az ps)->w.grownBy w' v.ownBlock->((Value.slice a' (n+m) c').ownBlock=v.ownBlock∨(Value.slice a' (n+m) c').ownBlock=some w.heap.size)->K (a.put o.dst (.slice a' (n+m) c')) w'):
    if Region.wanted o (yielded ops a.tmps)=true then Oper.wp Tryz.prog o a w K Q else E:=by
 have hwt:Region.wanted o (yielded ops a.tmps)=true:=by simp[Region.wanted,hgd]
 rw[if_pos hwt]
 obtain⟨a',c',w',hr,h2,h3,h5⟩:=xg (xc:=xc) o.type hown hw hm h63 hbase
 unfold Oper.wp execOp
 simp only[ho,resolve,invoke,builtin,Sem.run_bind,Sem.run_pure,Result.andThen_ok,List.map_toArray,List.map_cons,List.map_nil,hs,hx,hr]
 exact hK _ _ _ h2 h3 h5
theorem HpAt.turn {base pb:Nat} {name:ByteArray} {sv sv':Wd} {mv mv':Value} {room:Int} {ws:List Wd} {nm:List ByteArray} {M:Nat->Prop} {w w':World} (h:HpAt base (PL pb name sv mv) room ws nm M w) (k:Keep (fun b=>b=pb) w w')
    (hc:∀tv lv mp:Value,w.heap[pb]? =some (.cells #[.string name,.int .i64 room,tv,lv,mp,.int .i64 sv.1,.int .i64 sv.2,mv] 132)->w'.heap[pb]? =some (.cells #[.string name,.int .i64 room,tv,lv,mp,.int .i64 sv'.1,.int .i64 sv'.2,mv'] 132)):HpAt base (PL pb name sv' mv') room ws nm M w':=by
 obtain⟨tv,lv,mp,h1,h2,h3,h4,h5,h6,h7⟩:=h
 refine⟨tv,lv,mp,⟨⟨rfl,Or.inr rfl⟩,hc tv lv mp h1.2⟩,di h2 k (fun b e e'=> ?_),h3.kept k (fun b e e'=> ?_) (fun b e e'=> ?_),h4,h5,h6,h7⟩
 ·subst e'
  exact lh h2 h1 (by decide) e
 ·subst e'
  exact lh h3.1 h1 (by decide) e
 ·subst e'
  exact uj h3 h1 e
theorem MailAt.words {Mh:Nat->Prop} {ma:Option Addr} {vs:List Wd} {mc:Nat} {w:World} (h:MailAt Mh ma vs mc w):dO w vs ma:=by
 rcases h with⟨_,e,_⟩|⟨g,mo,cur,e1,_,e3,e4,_,e6,e7⟩
 ·exact Or.inl e
 ·refine Or.inr ⟨⟨g,mo,none⟩,e1,fun j u hj=> ?_⟩
  have hl:=(List.getElem?_eq_some_iff.1 hj).1
  have hj':=hj
  rw[<-e7,List.getElem?_take]at hj'
  split at hj'
  ·rw[List.getElem?_drop,Array.getElem?_toList]at hj'
   have e:(⟨g,mo,none⟩:Addr).add j=⟨g,mo+j,none⟩:=by unfold Addr.add;split<;>simp[*]
   rw[e]
   simp[World.cell?,e3,hj']
  ·cases hj'
theorem PHas.tidied {N:Nat} {ws:List Wd} {nm:List ByteArray} {room:Int} {us:List Wd} {ts:List (Tm N)} (h:PHas N ws nm room us ts):PHas N (iL ws N us).2.1 nm room (iL ws N us).1 ts/\((iL ws N us).2.1.length:Int)=(ts.map (sz N)).sum/\(iL ws N us).1.length=us.length:=by
 obtain⟨k1,k2,k3,k4,k5,k6,k7,k8⟩:=h
 obtain⟨e1,e2,e3⟩:=Fb k8 k1 k2
 have hr:∀y∈ts,ai ⟨N,y⟩:=fun y hy=>nD (k3 y hy).1
 have hst:=lW (fun x ws nm hx=>fK N x ws nm hx) ts [] nm hr
 have hsum:=BU N ts [] nm
 have hpl:=ve (fun x ws nm hx=>Af N x ws nm hx) ts [] nm hr
 have hln:=fD (aB N) ts [] nm
 rw[e3]at hst
 rw[e1,e2]
 simp only[List.length_nil]at hsum
 refine⟨⟨⟨hln,fun i v y hv hy=> ?_⟩,hpl.1,k3,by omega,by omega,k6,k7,k8⟩,by omega,by rw[hln,k1.1]⟩
 obtain⟨u,hu,hs⟩:=hst i y hy
 rw[hv]at hu
 injection hu with hu
 rw[hu]
 exact hs
theorem kC (w:World) {g q:Nat} (h:g≠q) (o:Nat) (v:Value) (j:Nat):(w.setCell ⟨q,o,none⟩ v).cell? ⟨g,j,none⟩=w.cell? ⟨g,j,none⟩:=by
 refine aK ?_ j
 have h':¬q=g:=fun e=>h e.symm
 simp[World.setCell,Array.getElem?_modify,h']
def uJ (g L:Nat):Option Addr:=if L=0 then some ⟨g,0,none⟩else some ⟨g,2,none⟩
def BN (w:World) (pb:Nat) (sv:Wd) (mv:Value):World:=((w.setCell ⟨pb,5,none⟩ (.int .i64 sv.1)).setCell ⟨pb,5+1,none⟩ (.int .i64 sv.2)).setCell ⟨pb,7,none⟩ mv
theorem Ha (pb:Nat) (sv:Wd) (vs:List Wd) (L:Nat) (ma:Option Addr) (mc:Nat) (w:World) (Fin:Nat->Wd->World->World->Prop) (hL:Hid (vs.length=L)) (hL2:L<=1000) (HC7:Hid (∀w1,Below w.heap.size w w1->w1.cell? ⟨pb,5,none⟩=some (.int .i64 sv.1)/\w1.cell? ⟨pb,5+1,none⟩=some (.int .i64 sv.2)/\w1.cell? ⟨pb,7,none⟩=some (.slice ma L mc)))
    (HWA:Hid (∀w1,Below w.heap.size w w1->dO w1 vs ma))
    (HCO:Hid (∀w1,Below w.heap.size w w1->∀(a:Option Addr) (c:Nat),w1.ownsRow w.heap.size 119 2 (.slice a (1+L) c) (1+L) (az (sv::vs))->Calls Tryz.prog 128 #[.pointer (some ⟨pb,1,none⟩),.slice a (1+L) c] w1 fun e w'=>∃(g:Nat) (sv':Wd),e=.returned (.tuple #[.slice (some ⟨g,0,none⟩) (1+L) (1+L),.int .i64 0])/\Hid ((w'.cell? ⟨g,0,none⟩=some (.int .i64 sv'.1)/\w'.cell? ⟨g,1,none⟩=some (.int .i64 sv'.2))/\g≠pb/\(∃v5 v6 v7,w'.cell? ⟨pb,5,none⟩=some v5/\w'.cell? ⟨pb,5+1,none⟩=some v6/\w'.cell? ⟨pb,7,none⟩=some v7)/\(∀j,w'.frozen? ⟨pb,j,none⟩=false)/\Fin g sv' w1 w'))):
    Calls Tryz.prog 111 #[.pointer (some ⟨pb,0,none⟩)] w fun e w'=>e=.returned (.tuple #[])/\∃(g:Nat) (sv':Wd) (w1 w2:World),w'=(BN w2 pb sv' (.slice (uJ g L) L L)).drew/\Hid (Below w.heap.size w w1/\Fin g sv' w1 w2):=by
 obtain⟨c5,c6,c7⟩:=HC7.out w (Below.refl _ _)
 have HD0:Hid (Below w.heap.size w w.drew):=(Below.refl _ _).drew
 have HD1:Hid (Below w.heap.size w (w.alloc (.cells #[.int .i64 sv.1,.int .i64 sv.2] 119)).drew/\(w.alloc (.cells #[.int .i64 sv.1,.int .i64 sv.2] 119)).drew.ownsRow w.heap.size 119 2 (.slice (some ⟨w.heap.size,0,none⟩) 1 1) 1 (wd2 sv)):=by
  refine⟨by go_grown,rfl,Or.inr ⟨w.heap.size,1, #[.int .i64 sv.1,.int .i64 sv.2],rfl,Nat.le_refl _,qH w _ rfl,Nat.le_refl _,by unfold maxLen;omega,rfl,rfl⟩⟩
 go_enter Tryz.func111,Tryz.ntmps111
 go_wp2_with fail
 go_region_held3 (fun w'=>w'.cell? ⟨pb,5,none⟩=some (.int .i64 sv.1)/\w'.cell? ⟨pb,5+1,none⟩=some (.int .i64 sv.2)/\w'.cell? ⟨pb,7,none⟩=some (.slice ma L mc)) (first|(go_keep;done)|with_reducible exact HC7.out _ HD0.out|with_reducible exact HC7.out _ HD1.out.1|exact HC7.out _ HB2.out)
  ((refine wE rfl _ _ rfl (base:=w.heap.size) (v:=.slice (some ⟨w.heap.size,0,none⟩) 1 1) (n:=1) (m:=L) (xc:=mc) (xs:=wd2 sv) (ps:=vs) (xa:=ma) (by simp[Act.eval]) (by simp[Act.eval]) HD1.out.2 (HWA.out _ HD1.out.1) hL.out (by omega) (by have:=HD1.out.1.size;exact this) ?_;intro a2 c2 w2 hown2 hgrow2 hat2;have HB2:Hid (Below w.heap.size w w2):=(HD1.out.1.trans ⟨hgrow2.os,hgrow2.tape,hgrow2.output,hgrow2.size,fun b hb=>hgrow2.block b (Nat.lt_of_lt_of_le hb HD1.out.1.size) (fun e=>by simp[Value.ownBlock]at e;omega)⟩);have HOW:=hide (show w2.ownsRow w.heap.size 119 2 (.slice a2 (1+L) c2) (1+L) (az (sv::vs))from hown2);clear hown2 hgrow2 hat2))
 have HC2:=hide (HCO.out w2 HB2.out a2 c2 HOW.out)
 clear c5 c6 c7
 go_wp2_with fail
 refine HC2.out.mono ?_
 rintro e w3 ⟨g,sv',rfl,H3⟩
 obtain⟨⟨g0,g1⟩,hgp,⟨v5,v6,v7,d5,d6,d7⟩,hf,HFin⟩:=H3.out
 replace HFin:=hide HFin
 have hl0:(0:Int)<1+(L:Int):=by omega
 have hl1:(1:Int)<=1+(L:Int):=by omega
 have hgp':pb≠g:=fun e=>hgp e.symm
 have HKS:Hid (∀a b:Value,((w3.setCell ⟨pb,5,none⟩ a).setCell ⟨pb,5+1,none⟩ b).cell? ⟨g,0,none⟩=some (.int .i64 sv'.1)/\((w3.setCell ⟨pb,5,none⟩ a).setCell ⟨pb,5+1,none⟩ b).cell? ⟨g,1,none⟩=some (.int .i64 sv'.2)):=fun a b=>by
  have hk:∀j,((w3.setCell ⟨pb,5,none⟩ a).setCell ⟨pb,5+1,none⟩ b).cell? ⟨g,j,none⟩=w3.cell? ⟨g,j,none⟩:=fun j=>(kC _ hgp _ _ j).trans (kC _ hgp _ _ j)
  exact⟨(hk _).trans g0,(hk _).trans g1⟩
 have HKT:Hid (∀a b c:Value,(((w3.setCell ⟨pb,5,none⟩ a).setCell ⟨pb,5+1,none⟩ b).setCell ⟨pb,7,none⟩ c).cell? ⟨g,0,none⟩=some (.int .i64 sv'.1)/\(((w3.setCell ⟨pb,5,none⟩ a).setCell ⟨pb,5+1,none⟩ b).setCell ⟨pb,7,none⟩ c).cell? ⟨g,1,none⟩=some (.int .i64 sv'.2)):=fun a b c=>by
  have hk:∀j,(((w3.setCell ⟨pb,5,none⟩ a).setCell ⟨pb,5+1,none⟩ b).setCell ⟨pb,7,none⟩ c).cell? ⟨g,j,none⟩=w3.cell? ⟨g,j,none⟩:=fun j=>(kC _ hgp _ _ j).trans ((kC _ hgp _ _ j).trans (kC _ hgp _ _ j))
  exact⟨(hk _).trans g0,(hk _).trans g1⟩
 go_wp2_with fail
 go_region_held3 (fun w'=>w'.cell? ⟨g,0,none⟩=some (.int .i64 sv'.1)/\w'.cell? ⟨g,1,none⟩=some (.int .i64 sv'.2)) (first|(go_keep;done)|exact HKS.out _ _|exact HKT.out _ _ _) (fail)
 exact bodyPost_end (v:=.tuple #[]) (by simp[results]) rfl ⟨rfl,g,sv',w2,w3,rfl,HB2.out,HFin.out⟩
theorem PHas.front {N:Nat} {ws:List Wd} {nm:List ByteArray} {room:Int} {us us':List Wd} {ts ts':List (Tm N)} (h:PHas N ws nm room (us++us') (ts++ts')) (hl:us.length=ts.length):PHas N ws nm room us ts:=by
 obtain⟨k1,k2,k3,k4,k5,k6,k7,k8⟩:=h
 refine⟨⟨hl,fun i v y hv hy=>k1.2 i v y ?_ ?_⟩, ?_,fun y hy=>k3 y (List.mem_append_left _ hy), ?_,k5,k6,k7,k8⟩
 ·rw[List.getElem?_append_left (List.getElem?_eq_some_iff.1 hv).1]
  exact hv
 ·rw[List.getElem?_append_left (List.getElem?_eq_some_iff.1 hy).1]
  exact hy
 ·rw[List.flatMap_append]at k2
  exact(List.nodup_append.1 k2).1
 ·rw[List.map_append,List.sum_append]at k4
  have h0:(0:Int)<=(ts'.map (sz N)).sum:=by
   clear k1 k2 k4
   induction ts' with
   | nil=>simp
   | cons y l ih=>
    have h1:=ih fun z hz=>k3 z (by simp only[List.mem_append,List.mem_cons]at hz ⊢;rcases hz with hz|hz<;>simp[hz])
    have h2:=(dI N y).1
    simp only[List.map_cons,List.sum_cons]
    omega
  omega
theorem FK {N:Nat}:(l:List (Tm N))->(l.map fun y=>1+sz N y).sum=l.length+(l.map (sz N)).sum
 | []=>by simp
 | y::l=>by
  have h:=FK l
  simp only[List.map_cons,List.sum_cons,List.length_cons,h]
  omega
theorem yz {N:Nat}:(l:List (Tm N))->(∀y∈l,ai ⟨N,y⟩)->((l.flatMap fun y=>nodes N y).length:Int)<=(l.map fun y=>1+sz N y).sum
 | [],_=>by simp
 | y::l,h=>by
  have h1:=yz l fun z hz=>h z (by simp[hz])
  have h2:=uG N y (h y (by simp))
  simp only[List.flatMap_cons,List.length_append,List.map_cons,List.sum_cons]
  omega
theorem PHas.roots {N:Nat} {ws:List Wd} {nm:List ByteArray} {room:Int} {us:List Wd} {ts:List (Tm N)} (h:PHas N ws nm room us ts) (hu:us.length<=1000):Roots ws nm N us ts:=by
 obtain⟨k1,k2,k3,k4,k5,k6,k7,k8⟩:=h
 have hr:∀y∈ts,ai ⟨N,y⟩:=fun y hy=>nD (k3 y hy).1
 have h1:=FK ts
 have h2:=yz ts hr
 have h3:=k1.1
 exact⟨k1,hr,fun y hy=>(k3 y hy).2,by omega,by omega,hu⟩
theorem EC {base n c:Nat} {a:Option Addr} {vs:List Wd} {w:World} (h:w.ownsRow base 119 2 (.slice a n c) n (az vs)) (h0:0<n):dG w vs a/\∀b o,a=some ⟨b,o,none⟩->b<w.heap.size:=by
 rcases h.2 with⟨e,e0⟩|⟨g,cap,cur,e,hg,hh,_⟩
 ·omega
 ·injection e with e1 e2 e3
  subst e1 e3
  have hlt:=(Array.getElem?_eq_some_iff.1 hh).1
  refine⟨Or.inr ⟨g,0,rfl,hlt,fun i v hv=> ?_⟩,fun b o e=> ?_⟩
  ·have:=gM h i v hv
   rw[Nat.zero_add]
   exact this
  ·injection e with e
   injection e with e
   omega
section
variable {base pb:Nat} {name:ByteArray} {room:Int} {N:Nat} {s:Tm (N+1)} {ms:List (Tm (N+1))} {xs:List (Wd×Tm (N+1))} {nk:Nat} {M:Nat->Prop} {w:World} {ws:List Wd} {nm:List ByteArray} {sv:Wd} {vs:List Wd} {ma:Option Addr} {mc:Nat} {Mh:Nat->Prop}
theorem PrAt.front (h:PrAt base pb name room (N+1) s ms xs nk M w ws nm sv vs ma mc Mh):PHas (N+1) ws nm room (sv::vs) (s::ms):=
 PHas.front h.has (by simp[h.len])
theorem EG {w:World} {pb:Nat} {c0 c1 c2 c3 c4 c5 c6 c7:Value} {t:TypeId} (sv:Wd) (mv:Value) (h:w.heap[pb]? =some (.cells #[c0,c1,c2,c3,c4,c5,c6,c7] t)):(BN w pb sv mv).heap[pb]? =some (.cells #[c0,c1,c2,c3,c4,.int .i64 sv.1,.int .i64 sv.2,mv] t):=by
 unfold BN World.setCell
 simp[Array.getElem?_modify,h]
theorem Ji (w:World) (pb:Nat) (sv:Wd) (mv:Value):Keep (fun b=>b=pb) w (BN w pb sv mv).drew:=by
 have h1:=aI w pb 5 (.int .i64 sv.1)
 have h2:=aI (w.setCell ⟨pb,5,none⟩ (.int .i64 sv.1)) pb (5+1) (.int .i64 sv.2)
 have h3:=aI ((w.setCell ⟨pb,5,none⟩ (.int .i64 sv.1)).setCell ⟨pb,5+1,none⟩ (.int .i64 sv.2)) pb 7 mv
 have h:=(h1.trans h2 fun _ _ k=>k).trans h3 fun _ _ k=>k
 exact⟨h.os,h.tape,h.output,h.size,h.block⟩
def NS (base pb:Nat) (name:ByteArray) (room:Int) (N:Nat) (s:Tm N) (ms:List (Tm N)) (nk:Nat) (M:Nat->Prop) (nm:List ByteArray) (w:World) (e:Ending) (w':World):Prop:=
 e=.returned (.tuple #[])/\∃ws' sv' vs' ma' Mh',PrAt base pb name room N s ms [] nk (fun b=>M b∨w.heap.size<=b) w' ws' nm sv' vs' ma' vs'.length Mh'/\Hid (Keep M w w'/\(ws'.length:Int)=((s::ms).map (sz N)).sum)
theorem PrAt.tidy (h:PrAt base pb name room (N+1) s ms xs nk M w ws nm sv vs ma mc Mh) (hnk:nk<=50000) (h20:ms.length<=999) (hbw:base<=w.heap.size):
    Calls Tryz.prog 111 #[.pointer (some ⟨pb,0,none⟩)] w (NS base pb name room (N+1) s ms nk M nm w):=by
 have hfr:=h.front
 have hlen:=h.len
 have hnn:=h.names
 have hrt:=hfr.roots (by simp only[List.length_cons];omega)
 obtain⟨ht1,ht2,ht3⟩:=hfr.tidied
 obtain⟨sv',vs',hR⟩:∃sv' vs',(iL ws (N+1) (sv::vs)).1=sv'::vs':=by
  cases hh:(iL ws (N+1) (sv::vs)).1 with
  | nil=>rw[hh]at ht3;simp at ht3
  | cons a l=>exact⟨a,l,rfl⟩
 rw[hR]at ht1 ht3
 simp only[List.length_cons]at ht3
 have hLv:vs'.length=vs.length:=by omega
 obtain⟨_,_,_,_,k5,_,k7,_⟩:=hfr
 refine(Ha pb sv vs vs.length ma mc w (fun g u w1 w3=>u=sv'/\zm base (PL pb name sv (.slice ma vs.length mc)) room (iL ws (N+1) (sv::vs)) nm Mh g w1 w3) rfl (by omega) ?_ ?_ ?_).mono ?_
 ·intro w1 hb
  obtain⟨tv,lv,mv,h1,_⟩:=(h.later hb).heap.box
  obtain⟨_,c5,c6,c7,_⟩:=PL.cells h1
  exact⟨c5,c6,c7⟩
 ·intro w1 hb
  exact(h.later hb).mail.words
 ·intro w1 hb a c hown
  have hs:=hb.size
  obtain⟨hin,hlt⟩:=EC hown (by omega)
  have hl:(sv::vs).length=1+vs.length:=by simp only[List.length_cons];omega
  have hc:=yS (N+1) (s::ms) (sv::vs) a c base (PL pb name sv (.slice ma vs.length mc)) room ws nm Mh w1 (h.later hb).heap hrt hin hlt (by omega) (by omega) (by omega)
  rw[hl]at hc
  refine hc.mono ?_
  rintro e w3 ⟨g,rfl,HO⟩
  have HO2:=HO.out
  obtain⟨o1,o2,o3,o4,o5,o6⟩:=HO2
  obtain⟨tv,lv,mv,h1,_⟩:=o1.box
  obtain⟨_,d5,d6,d7,d8,d9⟩:=PL.cells h1
  obtain⟨tv0,lv0,mv0,h10,_⟩:=(h.later hb).heap.box
  have hpb:pb<w1.heap.size:=(PL.cells h10).2.2.2.2.2
  refine⟨g,sv',rfl,⟨?_,by omega,⟨_,_,_,d5,d6,d7⟩,d8,rfl,HO.out⟩⟩
  rw[hR]at o3
  rcases o3 with e|⟨b,o,e,hlb,hcl⟩
  ·cases e
  ·injection e with e
   injection e with e1 e2
   subst e1 e2
   have:=hcl 0 sv' rfl
   simpa using this
 ·rintro e w' ⟨rfl,g,u,w1,w3,rfl,HF⟩
  obtain⟨hb,rfl,o1,o2,o3,o4,o5,len,o6⟩:=HF.out
  have hs:=hb.size
  obtain⟨tv0,lv0,mv0,h10,_⟩:=(h.later hb).heap.box
  have hpb:pb<w1.heap.size:=(PL.cells h10).2.2.2.2.2
  have hMp:Mh pb:=by
   obtain⟨_,_,_,_,_,_,q,_⟩:=h.heap
   exact q
  have hk:=Ji w3 pb u (.slice (uJ g vs.length) vs.length vs.length)
  rw[hR]at o6
  have hgp:¬g=pb:=by omega
  refine⟨rfl,(iL ws (N+1) (sv::vs)).2.1,u,vs',uJ g vs.length,fun b=>(Mh b∨w1.heap.size<=b)/\b≠g,⟨?_, ?_, ?_,by omega,hnn, ?_, ?_⟩, ?_⟩
  ·rw[hLv]
   exact o1.turn hk fun tv lv mp hc=>EG u _ hc
  ·rw[hLv]
   rcases o6.2 with⟨e,e0⟩|⟨g',cap,cur,e,_,hh,hle,hmx,hsz,htk⟩
   ·cases e
   ·injection e with e1 e2 e3
    injection e1 with e1
    injection e1 with e1
    subst e1 e3
    have hh':(BN w3 pb u (.slice (uJ g vs.length) vs.length vs.length)).drew.heap[g]? =some (.cells cur 119 (0,0)):=(hk.block g (Array.getElem?_eq_some_iff.1 hh).1 hgp).trans hh
    have hlen2:=o6.1
    rw[bf]at hlen2
    simp only[List.length_cons]at hlen2
    refine Or.inr ?_
    by_cases h0:vs.length=0
    ·refine⟨g,0,cur,by simp[uJ,h0],by simp,hh',by omega,by unfold maxLen;omega,by omega, ?_⟩
     have:vs'=[]:=List.length_eq_zero_iff.1 (by omega)
     simp[this,az]
    ·refine⟨g,2,cur,by simp[uJ,h0],by simp,hh',by omega,by omega,by omega, ?_⟩
     have e:len*2=2+vs'.length*2:=by omega
     rw[e]at htk
     have e2:=congrArg (List.drop 2) htk
     rw[List.drop_take,show 2+vs'.length*2-2=vs'.length*2 from by omega]at e2
     exact e2
  ·simpa using ht1
  ·intro b hb'
   rcases hb'.1 with q|q
   ·exact Or.inl (h.inM b q)
   ·exact Or.inr (by omega)
  ·intro a ha
   have:a.block=g:=by
    unfold uJ at ha
    split at ha
    ·injection ha with ha;rw[<-ha]
    ·injection ha with ha;rw[<-ha]
   exact Or.inr (by omega)
  ·refine⟨?_,ht2⟩
   refine Keep.trans ((aD hb M).trans (o2.mono h.inM) fun _ _ q=>q) hk fun b _ q=> ?_
   rw[q]
   exact h.inM pb hMp
end
end Go.Proofs.YtmbjgiaebneodaaGreat
