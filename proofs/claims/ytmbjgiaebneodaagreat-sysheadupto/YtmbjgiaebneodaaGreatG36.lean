/- What is proved here: plain facts and contracts that the claimed theorem stands on. No condition but those that each names. -/
import Derived.Test.YtmbjgiaebneodaaGreatG35
import Derived.Laws.Tables
namespace Go.Proofs.YtmbjgiaebneodaaGreat
open Go.RowKit
set_option maxHeartbeats 1000000
set_option maxRecDepth 100000
theorem GX (k u:Int) (s:ByteArray) (a:Option Addr) (l c:Nat) (w:World) (h:(k !=4)=true):
    Calls Tryz.prog 73 #[.agg #[.int .i64 k,.int .i64 u,.string s,.slice a l c]] w fun e w'=>e=.returned (.tuple #[.string ⟨#[]⟩,.slice none 0 0])/\Below w.heap.size w w':=by
 go_enter Tryz.func73,Tryz.ntmps73
 go_wp2_with fail
 exact bodyPost_ret (v:=.tuple #[.string ⟨#[]⟩,.slice none 0 0]) (by simp[results,Tryz.results73,go_sem]) rfl ⟨rfl,au⟩
theorem AB (u:Int) (s:ByteArray) (a:Option Addr) (c:Nat) (w:World):
    Calls Tryz.prog 73 #[.agg #[.int .i64 4,.int .i64 u,.string s,.slice a 0 c]] w fun e w'=>e=.returned (.tuple #[.string ⟨#[]⟩,.slice none 0 0])/\Below w.heap.size w w':=by
 go_enter Tryz.func73,Tryz.ntmps73
 go_wp2_with fail
 exact bodyPost_ret (v:=.tuple #[.string ⟨#[]⟩,.slice none 0 0]) (by simp[results,Tryz.results73,go_sem]) rfl ⟨rfl,au⟩
theorem E9 (u:Int) (s:ByteArray) (b o l c:Nat) (hl:0<l) (y0:Int) (hy:(y0 !=2)=true) (w:World) (hb:b<w.heap.size) (c0:w.cell? ⟨b,o,none⟩=some (.int .i64 y0)):
    Calls Tryz.prog 73 #[.agg #[.int .i64 4,.int .i64 u,.string s,.slice (some ⟨b,o,none⟩) l c]] w fun e w'=>e=.returned (.tuple #[.string ⟨#[]⟩,.slice none 0 0])/\Below w.heap.size w w':=by
 have hl0:((l:Int)==0)=false:=by simp;omega
 have hl1:(0:Int)<(l:Int):=by omega
 go_enter Tryz.func73,Tryz.ntmps73
 go_wp2_with fail
 exact bodyPost_ret (v:=.tuple #[.string ⟨#[]⟩,.slice none 0 0]) (by simp[results,Tryz.results73,go_sem]) rfl ⟨rfl,au⟩
theorem Hq (u:Int) (s:ByteArray) (b o l c:Nat) (hl:0<l) (hlc:l<=c) (hc:c<=9223372036854775807) (y2:ByteArray) (w:World) (hb:b<w.heap.size) (c0:w.cell? ⟨b,o,none⟩=some (.int .i64 2)) (c2:w.cell? ⟨b,o+2,none⟩=some (.string y2)):
    Calls Tryz.prog 73 #[.agg #[.int .i64 4,.int .i64 u,.string s,.slice (some ⟨b,o,none⟩) l c]] w fun e w'=>e=.returned (.tuple #[.string y2,.slice (if c=1 then some ⟨b,o,none⟩else some ⟨b,o+4,none⟩) (l-1) (c-1)])/\Below w.heap.size w w':=by
 have hl0:((l:Int)==0)=false:=by simp;omega
 have hl1:(0:Int)<(l:Int):=by omega
 have hl2:(1:Int)<=(l:Int):=by omega
 have hl3:(l:Int)<=(c:Int):=by omega
 by_cases h1:c=1
 ·rw[if_pos h1]
  obtain rfl:l=1:=by omega
  subst h1
  go_enter Tryz.func73,Tryz.ntmps73
  go_wp2_with fail
  go_region
  all_goals go_wp2_with fail
  all_goals exact bodyPost_ret (v:=.tuple #[.string y2,.slice (some ⟨b,o,none⟩) 0 0]) (by simp[results,Tryz.results73,go_sem]) rfl ⟨rfl,au.drew⟩
 ·rw[if_neg h1]
  go_enter Tryz.func73,Tryz.ntmps73
  go_wp2_with fail
  go_region
  all_goals go_wp2_with fail
  all_goals exact bodyPost_ret (v:=.tuple #[.string y2,.slice (some ⟨b,o+4,none⟩) (l-1) (c-1)]) (by simp[results,Tryz.results73,go_sem]) rfl ⟨rfl,au.drew⟩
def Keeps (g:Nat) (w w':World):Prop:=(w'.os=w.os/\w'.tape=w.tape/\w'.output=w.output)/\w'.heap.size=w.heap.size/\∀b,b≠g->w'.heap[b]? =w.heap[b]?
theorem Keeps.refl (g:Nat) (w:World):Keeps g w w:=⟨⟨rfl,rfl,rfl⟩,rfl,fun _ _=>rfl⟩
theorem Keeps.set {g:Nat} {w w':World} (h:Keeps g w w') (o:Nat) (v:Value):Keeps g w (w'.setCell ⟨g,o,none⟩ v):=
 ⟨h.1,by simpa [World.setCell]using h.2.1,fun b hb=>by
  have:g≠b:=fun e=>hb e.symm
  rw[<-h.2.2 b hb]
  simp[World.setCell,Array.getElem?_modify,this]⟩
theorem Keeps.below {g:Nat} {w0 w w':World} (h:Keeps g w w') (hb:Below w0.heap.size w0 w) (hg:w0.heap.size<=g):Below w0.heap.size w0 w':=
 ⟨h.1.1.trans hb.os,h.1.2.1.trans hb.tape,h.1.2.2.trans hb.output,by rw[h.2.1];exact hb.size,fun b hb'=>(h.2.2 b (by omega)).trans (hb.block b hb')⟩
theorem Keeps.stays {α:Type} {I:Nat->World->α->Prop} {O:(Nat->Prop)->α->Prop} (hS:Stays I O) {g:Nat} {w w':World} (h:Keeps g w w') {P:Nat->Prop} (hP:¬P g) {x:α} (ho:O P x) (hi:I w.heap.size w x):I w'.heap.size w' x:=by
 rw[h.2.1]
 exact hS.2.2.1 P _ w w' x (fun b hb=>h.2.2 b (fun e=>hP (e▸hb))) ho hi
abbrev iT (M:Nat) (o:Option (Ac (M+1))) (w:World) (e:Ending) (w':World):Prop:=pQ (eG (M+1)) (AcIn (M+1)) (kG (M+1)) (ES (M+1)) o w e w'
def Qz (M:Nat):Ac (M+1):=(0,(zT M,zT M),(.empty,0))
theorem PE (M B:Nat) (w:World):AcIn (M+1) B w (Qz M):=⟨by simp[Qz,bR],jE _ _ _,jE _ _ _,Nat.zero_le _,by simp[Qz,bR]⟩
theorem fA {M:Nat} {o:Option (Ac (M+1))} {w w':World} (ho:o=none) (hb:Below w.heap.size w w'):iT M o w (.returned (.tuple #[.agg #[.int .i64 0,.int .i64 0,.int .i64 0,.string .empty,.slice none 0 0,.int .i64 0,.int .i64 0,.string .empty,.slice none 0 0,.string .empty,.int .i64 0],.bool false])) w':=by
 subst ho
 exact⟨Qz M,false,rfl,hb,rfl,PE _ _ _,⟨Or.inl rfl,Or.inl rfl⟩,fun z hz=>by cases hz⟩
theorem Bt {P:Nat->Prop}:(N n:Nat)->n<=N->(x:Tm n)->Off P n x->Off P N (lift N n x)
 | _,0,_,_,k=>k.elim
 | 0,n+1,h,_,_=>by omega
 | N+1,n+1,h,x,k=>by
  rcases k with k|⟨b,o,e,hb,k⟩
  ·exact Or.inl (by simp[lift,k])
  ·refine Or.inr ⟨b,o,e,hb,fun i y hy=> ?_⟩
   simp only[lift,List.getElem?_map]at hy
   obtain⟨z,hz,rfl⟩:=Option.map_eq_some_iff.1 hy
   exact Bt N n (by omega) z (k i z hz)
theorem gH {M n:Nat} (hn:n<=M+1) {b y:Tm n} {w':World} {P:Nat->Prop} (h1:In w'.heap.size w' n y) (h2:Off P n y) (h3:same n y n b=true):In w'.heap.size w' (M+1) (lift (M+1) n y)/\Off P (M+1) (lift (M+1) n y)/\same (M+1) (lift (M+1) n y) (M+1) (lift (M+1) n b)=true:=
 ⟨nE _ _ hn _ _ _ h1,Bt _ _ hn _ h2,nu hn hn h3⟩
theorem Kr (w:World) (o1 o2 o3 o4:Obj):(((((w.alloc o1).alloc o2).alloc o3).alloc o4).heap[w.heap.size]? =some o1/\((((w.alloc o1).alloc o2).alloc o3).alloc o4).heap[w.heap.size+1]? =some o2/\((((w.alloc o1).alloc o2).alloc o3).alloc o4).heap[w.heap.size+1+1]? =some o3/\((((w.alloc o1).alloc o2).alloc o3).alloc o4).heap[w.heap.size+1+1+1]? =some o4)/\Below w.heap.size w ((((w.alloc o1).alloc o2).alloc o3).alloc o4)/\((((w.alloc o1).alloc o2).alloc o3).alloc o4).heap.size=w.heap.size+1+1+1+1:=by
 have h12:=jb w o1 o2
 have h34:=jb ((w.alloc o1).alloc o2) o3 o4
 have e:((w.alloc o1).alloc o2).heap.size=w.heap.size+1+1:=by simp
 rw[e]at h34
 refine⟨⟨?_, ?_,h34.1,h34.2⟩,by go_grown,by simp⟩
 ·exact(fe _ o4 (by simp;omega)).trans ((fe _ o3 (by simp;omega)).trans h12.1)
 ·exact(fe _ o4 (by simp)).trans ((fe _ o3 (by simp)).trans h12.2)
theorem eZ {w:World} {q:Nat} {c0 c1 c2 c3 c4 c5 c6 c7 c8 c9 c10:Value} {t:TypeId} (h:w.heap[q]? =some (.cells #[c0,c1,c2,c3,c4,c5,c6,c7,c8,c9,c10] t)):
    (w.cell? ⟨q,0,none⟩=some c0/\w.cell? ⟨q,1,none⟩=some c1/\w.cell? ⟨q,2,none⟩=some c2/\w.cell? ⟨q,3,none⟩=some c3/\w.cell? ⟨q,4,none⟩=some c4/\w.cell? ⟨q,5,none⟩=some c5/\w.cell? ⟨q,6,none⟩=some c6/\w.cell? ⟨q,7,none⟩=some c7/\w.cell? ⟨q,8,none⟩=some c8/\w.cell? ⟨q,9,none⟩=some c9/\w.cell? ⟨q,10,none⟩=some c10)/\(∀j,w.frozen? ⟨q,j,none⟩=false)/\q<w.heap.size:=
 ⟨⟨ag h 0,ag h 1,ag h 2,ag h 3,ag h 4,ag h 5,ag h 6,ag h 7,ag h 8,ag h 9,ag h 10⟩,fun j=>bE h j,(Array.getElem?_eq_some_iff.1 h).1⟩
theorem lF {M:Nat} {o:Option (Ac (M+1))} {w w2 w':World} {g:Nat} (y z:Ac (M+1)) (ho:o=some z) (hk:Keeps g w2 w') (hb:Below w.heap.size w w2) (hg:w.heap.size<=g) (hi:AcIn (M+1) w2.heap.size w2 y) (hf:kG (M+1) (fun b=>g<b) y) (hs:ES (M+1) y z):iT M o w (.returned (.tuple #[.agg (eG (M+1) y).toArray,.bool true])) w':=by
 subst ho
 exact⟨y,true,rfl,hk.below hb hg,rfl,hk.stays (dW _) (P:=fun b=>g<b) (by omega) hf hi,(dW _).1 _ _ _ (fun b hb=>by omega) hf,fun z' hz=>by obtain rfl:=Option.some.inj hz;exact hs⟩
section
variable {P:Program}
theorem eP {g:Nat} {w w':World} (h:Keeps g w w') {b:Nat} (hb:b≠g) (o:Nat):w'.cell? ⟨b,o,none⟩=w.cell? ⟨b,o,none⟩:=aK (h.2.2 b hb) o
theorem Nb {q:Nat} {w w':World} {v0 v1 v2 v3 v4 v5:Value} (h:Keeps (q+1+1+1) w w')
    (k:(w.cell? ⟨q,2,none⟩=some v0/\w.cell? ⟨q+1+1,1,none⟩=some v1)/\w.cell? ⟨q+1,0,none⟩=some v2/\w.cell? ⟨q+1,1,none⟩=some v3/\w.cell? ⟨q+1,2,none⟩=some v4/\w.cell? ⟨q+1,3,none⟩=some v5):
    (w'.cell? ⟨q,2,none⟩=some v0/\w'.cell? ⟨q+1+1,1,none⟩=some v1)/\w'.cell? ⟨q+1,0,none⟩=some v2/\w'.cell? ⟨q+1,1,none⟩=some v3/\w'.cell? ⟨q+1,2,none⟩=some v4/\w'.cell? ⟨q+1,3,none⟩=some v5:=
 ⟨⟨(eP h (by omega) _).trans k.1.1,(eP h (by omega) _).trans k.1.2⟩,(eP h (by omega) _).trans k.2.1,(eP h (by omega) _).trans k.2.2.1,(eP h (by omega) _).trans k.2.2.2.1,(eP h (by omega) _).trans k.2.2.2.2⟩
theorem xh (M n:Nat) (hn:n+1<=M+1) (a b c:Tm (n+1)) (B:Nat) (w:World) (ha:In B w (n+1) a) (hb:In B w (n+1) b) (hc:In B w (n+1) c) (hra:ai ⟨n+1,a⟩) (hrb:ai ⟨n+1,b⟩) (hB:B<=w.heap.size):
    Calls Tryz.prog 131 #[.agg #[.int .i64 a.1.1,.int .i64 a.1.2.1,.string a.1.2.2,.slice a.2.1.1 a.2.2.length a.2.1.2],.agg #[.int .i64 b.1.1,.int .i64 b.1.2.1,.string b.1.2.2,.slice b.2.1.1 b.2.2.length b.2.1.2],.agg #[.int .i64 c.1.1,.int .i64 c.1.2.1,.string c.1.2.2,.slice c.2.1.1 c.2.2.length c.2.1.2]] w (iT M (Aj M (n+1) a b c) w):=by
 obtain⟨o,ho⟩:∃o,o=Aj M (n+1) a b c:=⟨_,rfl⟩
 rw[<-ho]
 by_cases h2:a.1.1=2
 ·by_cases h5:c.1.1=5
  ·have HR:Hid (o=some (2,(zT M,lift (M+1) (n+1) b),(a.1.2.2,c.1.2.1))):=by
     show _=_
     rw[ho]
     simp[Aj,aU,h2,h5,yJ,nR,gZ,aL]
   clear ho
   have e2:(a.1.1 !=2)=false:=by simp[h2]
   have e5:(c.1.1 !=5)=false:=by simp[h5]
   have hs:a.1.2.2.size<=2048:=by
    have:=hra (aL n a) (by simp[nodes,aL])
    have hg:bq a.1.2.2=true:=by
     simp only[good,aL,h2]at this
     simp at this
     exact this.1.1
    simp only[bq,kr,Bool.and_eq_true,decide_eq_true_eq]at hg
    omega
   have HCP:Hid (∀w1,Below w.heap.size w w1->Calls Tryz.prog 45 #[.agg #[.int .i64 b.1.1,.int .i64 b.1.2.1,.string b.1.2.2,.slice b.2.1.1 b.2.2.length b.2.1.2]] w1 fun e w'=>∃z:Tm (n+1),e=.returned (.agg #[.int .i64 z.1.1,.int .i64 z.1.2.1,.string z.1.2.2,.slice z.2.1.1 z.2.2.length z.2.1.2])/\Hid (Below w1.heap.size w1 w'/\In w'.heap.size w' (n+1) z/\Off (fun q=>w1.heap.size<=q) (n+1) z/\same (n+1) z (n+1) b=true)):=
    fun w1 h1=>fV (n+1) b B w1 (hb.below (h1.mono hB)) (Nat.le_trans hB h1.size) hrb
   have HSZ:Hid (a.1.2.2.size<=maxLen/\bR c.1.2.1):=⟨ha.1.2.2.1,hc.1.2.1⟩
   clear ha hb hc hra hrb h2 h5
   go_enter Tryz.func131,Tryz.ntmps131
   go_wp2_with fail
   have HN:=hide (Kr w (.cells #[.int .i64 a.1.1,.int .i64 a.1.2.1,.string a.1.2.2,.slice a.2.1.1 a.2.2.length a.2.1.2] 30) (.cells #[.int .i64 b.1.1,.int .i64 b.1.2.1,.string b.1.2.2,.slice b.2.1.1 b.2.2.length b.2.1.2] 30) (.cells #[.int .i64 c.1.1,.int .i64 c.1.2.1,.string c.1.2.2,.slice c.2.1.1 c.2.2.length c.2.1.2] 30) (.cells #[.int .i64 0,.int .i64 0,.int .i64 0,.string ⟨#[]⟩,.slice none 0 0,.int .i64 0,.int .i64 0,.string ⟨#[]⟩,.slice none 0 0,.string ⟨#[]⟩,.int .i64 0] 74))
   generalize hW0:(((w.alloc _).alloc _).alloc _).alloc _=W0
   rw[hW0]at HN
   clear hW0
   have HK:Hid (∀w',Below W0.heap.size W0 w'->(w'.cell? ⟨w.heap.size,2,none⟩=some (.string a.1.2.2)/\w'.cell? ⟨w.heap.size+1+1,1,none⟩=some (.int .i64 c.1.2.1))/\w'.cell? ⟨w.heap.size+1,0,none⟩=some (.int .i64 b.1.1)/\w'.cell? ⟨w.heap.size+1,1,none⟩=some (.int .i64 b.1.2.1)/\w'.cell? ⟨w.heap.size+1,2,none⟩=some (.string b.1.2.2)/\w'.cell? ⟨w.heap.size+1,3,none⟩=some (.slice b.2.1.1 b.2.2.length b.2.1.2)):=fun w' h=>by
    have e:=HN.out.2.2
    have h1:=(h.block w.heap.size (by omega)).trans HN.out.1.1
    have h2:=(h.block (w.heap.size+1) (by omega)).trans HN.out.1.2.1
    have h3:=(h.block (w.heap.size+1+1) (by omega)).trans HN.out.1.2.2.1
    exact⟨⟨ag h1 2,ag h3 1⟩,ag h2 0,ag h2 1,ag h2 2,ag h2 3⟩
   obtain⟨⟨a2,c1⟩,b0,b1,b2,b3⟩:=HK.out W0 (Below.refl _ _)
   go_region_held3 (fun w'=>(w'.cell? ⟨w.heap.size,2,none⟩=some (.string a.1.2.2)/\w'.cell? ⟨w.heap.size+1+1,1,none⟩=some (.int .i64 c.1.2.1))/\w'.cell? ⟨w.heap.size+1,0,none⟩=some (.int .i64 b.1.1)/\w'.cell? ⟨w.heap.size+1,1,none⟩=some (.int .i64 b.1.2.1)/\w'.cell? ⟨w.heap.size+1,2,none⟩=some (.string b.1.2.2)/\w'.cell? ⟨w.heap.size+1,3,none⟩=some (.slice b.2.1.1 b.2.2.length b.2.1.2)) (first|with_reducible assumption|with_reducible exact HK.out _ HB2.out|with_reducible exact HK.out _ HB1.out|with_reducible exact HKS.out _ _ _ _ _ _ _ _ _ _ _|exact HK.out _ (Below.refl _ _).drew)
    ((first
     | (go_at_call 45;refine(HCP.out _ HN.out.2.1.drew).mono ?_;rintro e w1 ⟨z,rfl,HZ⟩;have HB1:=hide (bz HZ.out.1))
     | (go_at_call 52;refine(cB _ _ hs).mono ?_;rintro e w2 ⟨rfl,hb2⟩;have HB12:=hide hb2;have HB2:=hide (HB1.out.trans (hb2.mono HB1.out.size));have HX2:=hide ((HB2.out.block (w.heap.size+1+1+1) (by have:=HN.out.2.2;omega)).trans HN.out.1.2.2.2);clear hb2;obtain⟨⟨d0,d1,d2,d3,d4,d5,d6,d7,d8,d9,d10⟩,f0,hq2⟩:=eZ HX2.out;have HKS:Hid (∀v0 v1 v2 v3 v4 v5 v6 v7 v8 v9 v10:Value,((((((((((((w2.setCell ⟨w.heap.size+1+1+1,0,none⟩ v0).setCell ⟨w.heap.size+1+1+1,1,none⟩ v1).setCell ⟨w.heap.size+1+1+1,2,none⟩ v2).setCell ⟨w.heap.size+1+1+1,3,none⟩ v3).setCell ⟨w.heap.size+1+1+1,4,none⟩ v4).setCell ⟨w.heap.size+1+1+1,5,none⟩ v5).setCell ⟨w.heap.size+1+1+1,6,none⟩ v6).setCell ⟨w.heap.size+1+1+1,7,none⟩ v7).setCell ⟨w.heap.size+1+1+1,8,none⟩ v8).setCell ⟨w.heap.size+1+1+1,9,none⟩ v9).setCell ⟨w.heap.size+1+1+1,10,none⟩ v10).cell? ⟨w.heap.size,2,none⟩=some (.string a.1.2.2)/\(((((((((((w2.setCell ⟨w.heap.size+1+1+1,0,none⟩ v0).setCell ⟨w.heap.size+1+1+1,1,none⟩ v1).setCell ⟨w.heap.size+1+1+1,2,none⟩ v2).setCell ⟨w.heap.size+1+1+1,3,none⟩ v3).setCell ⟨w.heap.size+1+1+1,4,none⟩ v4).setCell ⟨w.heap.size+1+1+1,5,none⟩ v5).setCell ⟨w.heap.size+1+1+1,6,none⟩ v6).setCell ⟨w.heap.size+1+1+1,7,none⟩ v7).setCell ⟨w.heap.size+1+1+1,8,none⟩ v8).setCell ⟨w.heap.size+1+1+1,9,none⟩ v9).setCell ⟨w.heap.size+1+1+1,10,none⟩ v10).cell? ⟨w.heap.size+1+1,1,none⟩=some (.int .i64 c.1.2.1))/\(((((((((((w2.setCell ⟨w.heap.size+1+1+1,0,none⟩ v0).setCell ⟨w.heap.size+1+1+1,1,none⟩ v1).setCell ⟨w.heap.size+1+1+1,2,none⟩ v2).setCell ⟨w.heap.size+1+1+1,3,none⟩ v3).setCell ⟨w.heap.size+1+1+1,4,none⟩ v4).setCell ⟨w.heap.size+1+1+1,5,none⟩ v5).setCell ⟨w.heap.size+1+1+1,6,none⟩ v6).setCell ⟨w.heap.size+1+1+1,7,none⟩ v7).setCell ⟨w.heap.size+1+1+1,8,none⟩ v8).setCell ⟨w.heap.size+1+1+1,9,none⟩ v9).setCell ⟨w.heap.size+1+1+1,10,none⟩ v10).cell? ⟨w.heap.size+1,0,none⟩=some (.int .i64 b.1.1)/\(((((((((((w2.setCell ⟨w.heap.size+1+1+1,0,none⟩ v0).setCell ⟨w.heap.size+1+1+1,1,none⟩ v1).setCell ⟨w.heap.size+1+1+1,2,none⟩ v2).setCell ⟨w.heap.size+1+1+1,3,none⟩ v3).setCell ⟨w.heap.size+1+1+1,4,none⟩ v4).setCell ⟨w.heap.size+1+1+1,5,none⟩ v5).setCell ⟨w.heap.size+1+1+1,6,none⟩ v6).setCell ⟨w.heap.size+1+1+1,7,none⟩ v7).setCell ⟨w.heap.size+1+1+1,8,none⟩ v8).setCell ⟨w.heap.size+1+1+1,9,none⟩ v9).setCell ⟨w.heap.size+1+1+1,10,none⟩ v10).cell? ⟨w.heap.size+1,1,none⟩=some (.int .i64 b.1.2.1)/\(((((((((((w2.setCell ⟨w.heap.size+1+1+1,0,none⟩ v0).setCell ⟨w.heap.size+1+1+1,1,none⟩ v1).setCell ⟨w.heap.size+1+1+1,2,none⟩ v2).setCell ⟨w.heap.size+1+1+1,3,none⟩ v3).setCell ⟨w.heap.size+1+1+1,4,none⟩ v4).setCell ⟨w.heap.size+1+1+1,5,none⟩ v5).setCell ⟨w.heap.size+1+1+1,6,none⟩ v6).setCell ⟨w.heap.size+1+1+1,7,none⟩ v7).setCell ⟨w.heap.size+1+1+1,8,none⟩ v8).setCell ⟨w.heap.size+1+1+1,9,none⟩ v9).setCell ⟨w.heap.size+1+1+1,10,none⟩ v10).cell? ⟨w.heap.size+1,2,none⟩=some (.string b.1.2.2)/\(((((((((((w2.setCell ⟨w.heap.size+1+1+1,0,none⟩ v0).setCell ⟨w.heap.size+1+1+1,1,none⟩ v1).setCell ⟨w.heap.size+1+1+1,2,none⟩ v2).setCell ⟨w.heap.size+1+1+1,3,none⟩ v3).setCell ⟨w.heap.size+1+1+1,4,none⟩ v4).setCell ⟨w.heap.size+1+1+1,5,none⟩ v5).setCell ⟨w.heap.size+1+1+1,6,none⟩ v6).setCell ⟨w.heap.size+1+1+1,7,none⟩ v7).setCell ⟨w.heap.size+1+1+1,8,none⟩ v8).setCell ⟨w.heap.size+1+1+1,9,none⟩ v9).setCell ⟨w.heap.size+1+1+1,10,none⟩ v10).cell? ⟨w.heap.size+1,3,none⟩=some (.slice b.2.1.1 b.2.2.length b.2.1.2)):=(fun v0 v1 v2 v3 v4 v5 v6 v7 v8 v9 v10=>Nb (Keeps.set (Keeps.set (Keeps.set (Keeps.set (Keeps.set (Keeps.set (Keeps.set (Keeps.set (Keeps.set (Keeps.set (Keeps.set (Keeps.refl _ _) _ _) _ _) _ _) _ _) _ _) _ _) _ _) _ _) _ _) _ _) _ _) (HK.out _ HB2.out)))))
   go_wp2_with fail
   have HL:=gH (M:=M) hn ((HZ.out.2.1.below HB12.out).mono HB12.out.size) (HZ.out.2.2.1.mono fun q (hq:W0.heap.size<=q)=>(show w.heap.size+1+1+1<q by have:=HN.out.2.2;omega)) HZ.out.2.2.2
   refine bodyPost_ret (v:=.tuple #[.agg #[.int .i64 2,.int .i64 0,.int .i64 0,.string ⟨#[]⟩,.slice none 0 0,.int .i64 z.1.1,.int .i64 z.1.2.1,.string z.1.2.2,.slice z.2.1.1 z.2.2.length z.2.1.2,.string a.1.2.2,.int .i64 c.1.2.1],.bool true]) (by simp[results,Tryz.results131,go_sem,d0,d1,d2,d3,d4,d5,d6,d7,d8,d9,d10]) rfl ?_
   have e:eG (M+1) (2,(zT M,lift (M+1) (n+1) z),(a.1.2.2,c.1.2.1))=[.int .i64 2,.int .i64 0,.int .i64 0,.string ⟨#[]⟩,.slice none 0 0,.int .i64 z.1.1,.int .i64 z.1.2.1,.string z.1.2.2,.slice z.2.1.1 z.2.2.length z.2.1.2,.string a.1.2.2,.int .i64 c.1.2.1]:=by
    show .int .i64 2::(fP (M+1) (zT M)++fP (M+1) (lift (M+1) (n+1) z)++ [.string a.1.2.2,.int .i64 c.1.2.1])=_
    rw[eY]
    rfl
   have k:=fun(w':World) (hk:Keeps (w.heap.size+1+1+1) w2 w')=>lF (g:=w.heap.size+1+1+1) (w2:=w2) (2,(zT M,lift (M+1) (n+1) z),(a.1.2.2,c.1.2.1)) (2,(zT M,lift (M+1) (n+1) b),(a.1.2.2,c.1.2.1)) HR.out (w:=w) hk (HN.out.2.1.trans (HB2.out.mono HN.out.2.1.size)) (by omega) ⟨by simp[bR],jE _ _ _,HL.1,HSZ.out.1,HSZ.out.2⟩ ⟨Or.inl rfl,HL.2.1⟩ ⟨rfl,jU (jE _ 0 w),HL.2.2,rfl⟩
   rw[e]at k
   exact k _ (Keeps.set (Keeps.set (Keeps.set (Keeps.set (Keeps.set (Keeps.set (Keeps.set (Keeps.set (Keeps.set (Keeps.set (Keeps.set (Keeps.refl _ _) _ _) _ _) _ _) _ _) _ _) _ _) _ _) _ _) _ _) _ _) _ _)
  ·have e2:(a.1.1 !=2)=false:=by simp[h2]
   have e5:(c.1.1 !=5)=true:=by simp[h5]
   have HR:Hid (o=none):=by
    show _=_
    rw[ho]
    simp[Aj,aU,h5]
   clear ho
   clear ha hb hc hra hrb h2 h5
   go_enter Tryz.func131,Tryz.ntmps131
   go_wp2_with fail
   exact bodyPost_ret (v:=.tuple #[.agg #[.int .i64 0,.int .i64 0,.int .i64 0,.string .empty,.slice none 0 0,.int .i64 0,.int .i64 0,.string .empty,.slice none 0 0,.string .empty,.int .i64 0],.bool false]) (by simp[results,Tryz.results131,go_sem];rfl) rfl (fA HR.out (by go_grown))
 ·have e2:(a.1.1 !=2)=true:=by simp[h2]
  have HR:Hid (o=none):=by
   show _=_
   rw[ho]
   simp[Aj,aU,h2]
  clear ho
  clear ha hb hc hra hrb h2
  go_enter Tryz.func131,Tryz.ntmps131
  go_wp2_with fail
  exact bodyPost_ret (v:=.tuple #[.agg #[.int .i64 0,.int .i64 0,.int .i64 0,.string .empty,.slice none 0 0,.int .i64 0,.int .i64 0,.string .empty,.slice none 0 0,.string .empty,.int .i64 0],.bool false]) (by simp[results,Tryz.results131,go_sem];rfl) rfl (fA HR.out (by go_grown))
end Go.Proofs.YtmbjgiaebneodaaGreat
