/- What is proved here: the statement's own small program (clerkkeep.small): what it returns lies in new memory and is the small program. No condition. -/
import Derived.Test.YtmbjgiaebneodaaGreatG41
namespace Go.Proofs.YtmbjgiaebneodaaGreat
open Go.RowKit
set_option maxHeartbeats 4000000
set_option maxRecDepth 100000
theorem rH (s:ByteArray) (w:World):
    Calls Tryz.prog 13 #[.string s] w fun e w'=>e=.returned (.agg #[.int .i64 2,.int .i64 0,.string s,.slice none 0 0])/\w'=w.alloc (.cells #[.int .i64 2,.int .i64 0,.string s,.slice none 0 0] 30):=by
 go_enter Tryz.func13,Tryz.ntmps13
 go_wp2_with fail
 exact bodyPost_ret (v:=.agg #[.int .i64 2,.int .i64 0,.string s,.slice none 0 0]) (by simp[results,Tryz.results13,go_sem]) rfl ⟨rfl,rfl⟩
theorem vO (n:Int) (w:World):
    Calls Tryz.prog 14 #[.int .i64 n] w fun e w'=>e=.returned (.agg #[.int .i64 1,.int .i64 n,.string ⟨#[]⟩,.slice none 0 0])/\w'=w.alloc (.cells #[.int .i64 1,.int .i64 n,.string ⟨#[]⟩,.slice none 0 0] 30):=by
 go_enter Tryz.func14,Tryz.ntmps14
 go_wp2_with fail
 exact bodyPost_ret (v:=.agg #[.int .i64 1,.int .i64 n,.string ⟨#[]⟩,.slice none 0 0]) (by simp[results,Tryz.results14,go_sem]) rfl ⟨rfl,rfl⟩
theorem JP (n:Int) (w:World):
    Calls Tryz.prog 25 #[.int .i64 n] w fun e w'=>e=.returned (.agg #[.int .i64 5,.int .i64 n,.string ⟨#[]⟩,.slice none 0 0])/\w'=w.alloc (.cells #[.int .i64 5,.int .i64 n,.string ⟨#[]⟩,.slice none 0 0] 30):=by
 go_enter Tryz.func25,Tryz.ntmps25
 go_wp2_with fail
 exact bodyPost_ret (v:=.agg #[.int .i64 5,.int .i64 n,.string ⟨#[]⟩,.slice none 0 0]) (by simp[results,Tryz.results25,go_sem]) rfl ⟨rfl,rfl⟩
theorem heap_alloc_old (w:World) (o:Obj) {q:Nat} (h:q<w.heap.size):(w.alloc o).heap[q]? =w.heap[q]? :=(au (w:=w) (o:=o)).block q h
theorem mX {α:Type} {B:Nat} {w:World} {k:Nat} {f:α->List Value} {I:α->Prop} {g:Nat} {cs:Array Value} {t:TypeId} (xs:List α) (hh:w.heap[g]? =some (.cells cs t)) (hcs:cs.toList=xs.flatMap f) (hk:∀x,(f x).length=k) (hg:g<B) (hI:∀y∈xs,I y):Lay B w k f I (some ⟨g,0,none⟩) xs:=by
 refine Or.inr ⟨g,0,rfl,hg,fun i y hy=>⟨fun j u hj=> ?_,hI y (List.mem_of_getElem? hy)⟩⟩
 have hat:∀(l:List α) (i j:Nat) (y:α) (u:Value),l[i]? =some y->(f y)[j]? =some u->(l.flatMap f)[i*k+j]? =some u:=by
  intro l
  induction l with
  | nil=>intro i j y u h;simp at h
  | cons x l ih=>
   intro i j y u h hj
   rw[List.flatMap_cons]
   cases i with
   | zero=>
    simp at h
    subst h
    rw[List.getElem?_append_left (by have:=(List.getElem?_eq_some_iff.1 hj).1;omega)]
    simpa using hj
   | succ i=>
    rw[List.getElem?_append_right (by rw[hk,Nat.succ_mul];omega),hk,Nat.succ_mul,show i*k+k+j-k=i*k+j by omega]
    exact ih i j y u (by simpa using h) hj
 have h1:=hat xs i j y u hy hj
 rw[<-hcs,Array.getElem?_toList]at h1
 rw[Nat.zero_add]
 simp only[World.cell?,hh]
 simpa using h1
theorem mR {N B:Nat} {w:World} {g:Nat} {cs:Array Value} {t:TypeId} (xs:List (Tm N)) (hh:w.heap[g]? =some (.cells cs t)) (hcs:cs.toList=xs.flatMap (fP N)) (hg:g<B) (hm:xs.length<=8) (hI:∀y∈xs,In B w N y):In B w (N+1) ((4,0,.empty),(some ⟨g,0,none⟩,xs.length),xs):=by
 refine⟨⟨by simp[bR],by simp[bR],Nat.zero_le _,Nat.le_refl _,by show xs.length<=maxLen;unfold maxLen;omega⟩, ?_⟩
 rcases mX (I:=In B w N) xs hh hcs (kV N) hg hI with h|⟨b,o,e,hb,h⟩
 ·exact Or.inl h
 ·refine Or.inr ⟨b,o,e,hb,fun i y hy=>⟨?_,(h i y hy).2⟩⟩
  have h1:=(h i y hy).1
  cases N with
  | zero=>exact((h i y hy).2).elim
  | succ N=>exact⟨h1 0 _ rfl,h1 1 _ rfl,h1 2 _ rfl,h1 3 _ rfl⟩
theorem uF (k:Int) (hk:bR k) (N B:Nat) (w:World):In B w (N+1) (lK k N):=⟨⟨by simp[lK,aF,bR],hk,Nat.zero_le _,by simp[lK,aF],by simp[lK,aF]⟩,Or.inl rfl⟩
theorem LF (k:Int) (hk:bR k) (N B:Nat) (w:World):In B w (N+1) (aF 1 k N):=⟨⟨by simp[aF,bR],hk,Nat.zero_le _,by simp[aF],by simp[aF]⟩,Or.inl rfl⟩
def QO (g1:Nat):Tm 3:=((4,0,.empty),(some ⟨g1,0,none⟩,2),[aC wN 1,lK 1 1])
def smA (g2:Nat):Tm 2:=((4,0,.empty),(some ⟨g2,0,none⟩,3),[aC eQ 0,lK 1 0,aF 1 1 0])
def QR (g2 g3:Nat):Tm 3:=((4,0,.empty),(some ⟨g3,0,none⟩,2),[aC wN 1,smA g2])
def Ms (g2 g3:Nat):Ac 3:=(1,(lK 0 2,QR g2 g3),.empty,0)
def PK (g1 g2 g3 g4:Nat):Cl 3:=((lK 0 2,QO g1,lK 0 2),(some ⟨g4,0,none⟩,1),[Ms g2 g3])
def Cr (g1 g2 g3 g4 g5:Nat):Bh 3:=(aV,(some ⟨g5,0,none⟩,1),[PK g1 g2 g3 g4])
theorem JZ (n:Nat) (a:Ac (n+1)):(eG (n+1) a).length=11:=rfl
theorem Mi (n:Nat) (a:Cl (n+1)):(dJ (n+1) a).length=13:=rfl
theorem MN (n:Nat) (a:Bh n):(nK n a).length=2:=rfl
theorem KO {B g1 g2 g3 g4 g5 g6:Nat} {w:World} {t:TypeId} {t4 t5 t6:TypeId}
    (h1:w.heap[g1]? =some (.cells #[.int .i64 2,.int .i64 0,.string ⟨#[110]⟩,.slice none 0 0,.int .i64 5,.int .i64 1,.string ⟨#[]⟩,.slice none 0 0] t))
    (h2:w.heap[g2]? =some (.cells #[.int .i64 2,.int .i64 0,.string ⟨#[97,100,100]⟩,.slice none 0 0,.int .i64 5,.int .i64 1,.string ⟨#[]⟩,.slice none 0 0,.int .i64 1,.int .i64 1,.string ⟨#[]⟩,.slice none 0 0] t))
    (h3:w.heap[g3]? =some (.cells #[.int .i64 2,.int .i64 0,.string ⟨#[110]⟩,.slice none 0 0,.int .i64 4,.int .i64 0,.string ⟨#[]⟩,.slice (some ⟨g2,0,none⟩) 3 3] t))
    (h4:w.heap[g4]? =some (.cells #[.int .i64 1,.int .i64 5,.int .i64 0,.string ⟨#[]⟩,.slice none 0 0,.int .i64 4,.int .i64 0,.string ⟨#[]⟩,.slice (some ⟨g3,0,none⟩) 2 2,.string ⟨#[]⟩,.int .i64 0] t4))
    (h5:w.heap[g5]? =some (.cells #[.int .i64 5,.int .i64 0,.string ⟨#[]⟩,.slice none 0 0,.int .i64 4,.int .i64 0,.string ⟨#[]⟩,.slice (some ⟨g1,0,none⟩) 2 2,.slice (some ⟨g4,0,none⟩) 1 1,.int .i64 5,.int .i64 0,.string ⟨#[]⟩,.slice none 0 0] t5))
    (h6:w.heap[g6]? =some (.cells #[.string ⟨#[114,101,108,97,121]⟩,.slice (some ⟨g5,0,none⟩) 1 1] t6))
    (hB:g1<B/\g2<B/\g3<B/\g4<B/\g5<B/\g6<B):PgIn 3 B w (some ⟨g6,0,none⟩) [Cr g1 g2 g3 g4 g5]:=by
 obtain⟨b1,b2,b3,b4,b5,b6⟩:=hB
 have z:bR 0/\bR 1:=by simp[bR]
 have one:(1:Nat)<=maxLen:=by unfold maxLen;omega
 have iM:In B w 3 (QO g1):=mR [aC wN 1,lK 1 1] h1 rfl b1 (by simp) (fun y hy=>by
  simp only[List.mem_cons,List.not_mem_nil,or_false]at hy
  rcases hy with rfl|rfl
  ·exact dP _ _ (gq _ (by decide)) _ _
  ·exact uF 1 z.2 _ _ _)
 have iA:In B w 2 (smA g2):=mR [aC eQ 0,lK 1 0,aF 1 1 0] h2 rfl b2 (by simp) (fun y hy=>by
  simp only[List.mem_cons,List.not_mem_nil,or_false]at hy
  rcases hy with rfl|rfl|rfl
  ·exact dP _ _ (gq _ (by decide)) _ _
  ·exact uF 1 z.2 _ _ _
  ·exact LF 1 z.2 _ _ _)
 have iW:In B w 3 (QR g2 g3):=mR [aC wN 1,smA g2] h3 rfl b3 (by simp) (fun y hy=>by
  simp only[List.mem_cons,List.not_mem_nil,or_false]at hy
  rcases hy with rfl|rfl
  ·exact dP _ _ (gq _ (by decide)) _ _
  ·exact iA)
 refine mX [Cr g1 g2 g3 g4 g5] h6 rfl (MN 3) b6 (fun y hy=> ?_)
 obtain rfl:y=Cr g1 g2 g3 g4 g5:=by simpa using hy
 refine⟨gq aV (by decide),⟨Nat.le_refl _,one⟩,mX [PK g1 g2 g3 g4] h5 rfl (Mi 2) b5 (fun y hy=> ?_)⟩
 obtain rfl:y=PK g1 g2 g3 g4:=by simpa using hy
 refine⟨⟨uF 0 z.1 _ _ _,iM,uF 0 z.1 _ _ _⟩,⟨Nat.le_refl _,one⟩,mX [Ms g2 g3] h4 rfl (JZ 2) b4 (fun y hy=> ?_)⟩
 obtain rfl:y=Ms g2 g3:=by simpa using hy
 exact⟨z.2,uF 0 z.1 _ _ _,iW,Nat.zero_le _,z.1⟩
theorem ww (k:Int) (N M:Nat):same (N+1) (lK k N) (M+1) (lK k M)=true:=oV 5 k N M
theorem Fw (g1 g2 g3 g4 g5:Nat):RelL (vW 3) [Cr g1 g2 g3 g4 g5] iN:=by
 have s0:=ww 0 2 2
 have sM:same 3 (QO g1) 3 Bi=true:=aZ rfl (show ah _ [aC wN 1,lK 1 1] [aC wN 1,lK 1 1]=true by simp[ah,bV,ww])
 have sA:same 2 (smA g2) 2 (bH 1 [aC eQ 0,lK 1 0,aF 1 1 0])=true:=aZ rfl (show ah _ [aC eQ 0,lK 1 0,aF 1 1 0] [aC eQ 0,lK 1 0,aF 1 1 0]=true by simp[ah,bV,ww,oV])
 have sW:same 3 (QR g2 g3) 3 oC=true:=aZ rfl (show ah _ [aC wN 1,smA g2] [aC wN 1,bH 1 [aC eQ 0,lK 1 0,aF 1 1 0]]=true by simp[ah,bV,sA])
 refine RelL.snoc (l:=[]) (r:=[]) RelL.nil ⟨rfl,RelL.snoc (l:=[]) (r:=[]) RelL.nil ⟨⟨s0,sM,s0⟩,RelL.snoc (l:=[]) (r:=[]) RelL.nil ⟨rfl,s0,sW,rfl⟩⟩⟩
def PX (w:World) (e:Ending) (w':World):Prop:=∃(a:Option Addr) (l:List (Bh 3)),e=.returned (.slice a 1 1)/\Hid (Below w.heap.size w w'/\l.length=1/\PgIn 3 w'.heap.size w' a l/\RelL (vW 3) l iN)
def KV (w:World) (e:Ending) (w':World):Prop:=∃(a:Option Addr) (g1 g2 g3 g4 g5:Nat),e=.returned (.slice a 1 1)/\Hid (Below w.heap.size w w'/\PgIn 3 w'.heap.size w' a [Cr g1 g2 g3 g4 g5]/\∀W:World,(∀b,w.heap.size<=b->b<w'.heap.size->W.heap[b]? =w'.heap[b]?)->PgIn 3 w'.heap.size W a [Cr g1 g2 g3 g4 g5])
theorem GU {w w':World} {g1 g2 g3 g4 g5 g6:Nat} (hb:Below w.heap.size w w') (h:∀W:World,(∀b,w.heap.size<=b->b<w'.heap.size->W.heap[b]? =w'.heap[b]?)->PgIn 3 w'.heap.size W (some ⟨g6,0,none⟩) [Cr g1 g2 g3 g4 g5]):KV w (.returned (.slice (some ⟨g6,0,none⟩) 1 1)) w':=
 ⟨_,g1,g2,g3,g4,g5,rfl,hb,h w' fun _ _ _=>rfl,h⟩
theorem Fa (w:World):Calls Tryz.prog 10 #[] w (KV w):=by
 go_enter Tryz.func10,Tryz.ntmps10
 go_wp2_with (first
  | (go_at_call 25;refine(JP _ _).mono ?_;rintro e w1 ⟨rfl,rfl⟩)
  | (go_at_call 13;refine(rH _ _).mono ?_;rintro e w1 ⟨rfl,rfl⟩)
  | (go_at_call 14;refine(vO _ _).mono ?_;rintro e w1 ⟨rfl,rfl⟩)
  | (go_at_call 12;refine(oz _ _ _ _).mono ?_;rintro e w1 ⟨rfl,rfl⟩))
 go_ret
 refine GU (g1:=w.heap.size+1+1+1) (g2:=w.heap.size+1+1+1+1+1+1+1+1+1+1) (g3:=w.heap.size+1+1+1+1+1+1+1+1+1+1+1+1) (g4:=w.heap.size+1+1+1+1+1+1+1+1+1+1+1+1+1+1) (g5:=w.heap.size+1+1+1+1+1+1+1+1+1+1+1+1+1+1+1+1) (g6:=w.heap.size+1+1+1+1+1+1+1+1+1+1+1+1+1+1+1+1+1) (by go_grown) (fun W hW=>KO (t:=30) (t4:=74) (t5:=77) (t6:=80) ?_ ?_ ?_ ?_ ?_ ?_ ?_)
 ·refine(hW _ (by omega) (by simp)).trans ?_
  iterate 14 (refine(heap_alloc_old _ _ (by simp)).trans ?_)
  exact fG _ _ (by simp)
 ·refine(hW _ (by omega) (by simp)).trans ?_
  iterate 7 (refine(heap_alloc_old _ _ (by simp)).trans ?_)
  exact fG _ _ (by simp)
 ·refine(hW _ (by omega) (by simp)).trans ?_
  iterate 5 (refine(heap_alloc_old _ _ (by simp)).trans ?_)
  exact fG _ _ (by simp)
 ·refine(hW _ (by omega) (by simp)).trans ?_
  iterate 3 (refine(heap_alloc_old _ _ (by simp)).trans ?_)
  exact fG _ _ (by simp)
 ·refine(hW _ (by omega) (by simp)).trans ?_
  iterate 1 (refine(heap_alloc_old _ _ (by simp)).trans ?_)
  exact fG _ _ (by simp)
 ·exact(hW _ (by omega) (by simp)).trans (fG _ _ (by simp))
 ·refine⟨?_, ?_, ?_, ?_, ?_, ?_⟩<;>simp
theorem Jd (w:World):Calls Tryz.prog 10 #[] w (PX w):=(Fa w).mono fun _ _ ⟨a,g1,g2,g3,g4,g5,he,H⟩=>⟨a,[Cr g1 g2 g3 g4 g5],he,H.out.1,rfl,H.out.2.1,Fw _ _ _ _ _⟩
end Go.Proofs.YtmbjgiaebneodaaGreat
