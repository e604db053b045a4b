/- What is proved here: code.readAct of right terms that lie in memory returns what rdA says, in new memory. No condition but that. -/
import Derived.Test.YtmbjgiaebneodaaGreatG36
namespace Go.Proofs.YtmbjgiaebneodaaGreat
open Go.RowKit
set_option maxHeartbeats 1000000
set_option maxRecDepth 100000
theorem jh (l:List UInt8):(⟨l.toArray⟩:ByteArray).toList=l:=by rw[ByteArray.toList_eq]
theorem lg (wd:ByteArray) (l:List UInt8):sF wd ⟨l.toArray⟩=(wd.toList==l):=by
 show (wd.toList==(⟨l.toArray⟩:ByteArray).toList)=(wd.toList==l)
 rw[show (⟨l.toArray⟩:ByteArray).toList=l from jh l]
theorem bX {w w1:World} {o1 o2:Obj} (h:Below ((w.alloc o1).alloc o2).heap.size ((w.alloc o1).alloc o2) w1):w1.heap[w.heap.size]? =some o1/\w1.heap[w.heap.size+1]? =some o2/\Below w.heap.size w w1/\w.heap.size+2<=w1.heap.size:=by
 have hs:=h.size
 have e:((w.alloc o1).alloc o2).heap.size=w.heap.size+2:=by simp
 have hb:Below w.heap.size w ((w.alloc o1).alloc o2):=by go_grown
 exact⟨(h.block _ (by omega)).trans (jb w o1 o2).1,(h.block _ (by omega)).trans (jb w o1 o2).2,hb.trans (h.mono hb.size),by omega⟩
theorem zg (M _n:Nat) (k u:Int) (s:ByteArray) (xa:Option Addr) (xl xc:Nat) (wd:ByteArray) (a:Option Addr) (len c:Nat) (w:World) (o:Option (Ac (M+1))) (ho:Hid (o=none)) (b1:(wd.toList==[115,101,110,100])=false) (b2:(wd.toList==[115,112,97,119,110])=false) (b3:(wd.toList==[108,105,110,107])=false) (b4:(wd.toList==[115,116,111,112])=false) 
    (HO:Hid (∀w1,Below w.heap.size w w1->Calls Tryz.prog 73 #[.agg #[.int .i64 k,.int .i64 u,.string s,.slice xa xl xc]] w1 fun e w'=>e=.returned (.tuple #[.string wd,.slice a len c])/\Below w1.heap.size w1 w')):
    Calls Tryz.prog 115 #[.agg #[.int .i64 k,.int .i64 u,.string s,.slice xa xl xc]] w (iT M o w):=by
 go_enter Tryz.func115,Tryz.ntmps115
 go_wp2_with fail
 refine(HO.out _ (by go_grown)).mono ?_
 rintro e w1 ⟨rfl,hb1⟩
 obtain⟨hx0,hx1,hbw,hs2⟩:=bX hb1
 have HB1:=hide hbw
 have HX1:=hide hx1
 clear hb1 hx0 hx1 hbw HO
 obtain⟨⟨d0,d1,d2,d3,d4,d5,d6,d7,d8,d9,d10⟩,f0,hq1⟩:=eZ HX1.out
 go_wp2_with fail
 exact bodyPost_ret (v:=.tuple #[.agg #[.int .i64 0,.int .i64 0,.int .i64 0,.string .empty,.slice none 0 0,.int .i64 0,.int .i64 0,.string .empty,.slice none 0 0,.string .empty,.int .i64 0],.bool false]) (by simp[results,Tryz.results115,go_sem,d0,d1,d2,d3,d4,d5,d6,d7,d8,d9,d10];rfl) rfl (fA ho.out ((Keeps.set (Keeps.set (Keeps.set (Keeps.set (Keeps.set (Keeps.set (Keeps.set (Keeps.set (Keeps.set (Keeps.set (Keeps.set (Keeps.refl _ _) _ _) _ _) _ _) _ _) _ _) _ _) _ _) _ _) _ _) _ _) _ _).below HB1.out (by omega)))
theorem qP (M _n:Nat) (k u:Int) (s:ByteArray) (xa:Option Addr) (xl xc:Nat) (wd:ByteArray) (a:Option Addr) (len c:Nat) (w:World) (o:Option (Ac (M+1))) (ho:Hid (o=none)) (b1:(wd.toList==[115,101,110,100])=true) (b2:(wd.toList==[115,112,97,119,110])=false) (b3:(wd.toList==[108,105,110,107])=false) (b4:(wd.toList==[115,116,111,112])=false) (hl:((len:Int)==2)=false)
    (HO:Hid (∀w1,Below w.heap.size w w1->Calls Tryz.prog 73 #[.agg #[.int .i64 k,.int .i64 u,.string s,.slice xa xl xc]] w1 fun e w'=>e=.returned (.tuple #[.string wd,.slice a len c])/\Below w1.heap.size w1 w')):
    Calls Tryz.prog 115 #[.agg #[.int .i64 k,.int .i64 u,.string s,.slice xa xl xc]] w (iT M o w):=by
 go_enter Tryz.func115,Tryz.ntmps115
 go_wp2_with fail
 refine(HO.out _ (by go_grown)).mono ?_
 rintro e w1 ⟨rfl,hb1⟩
 obtain⟨hx0,hx1,hbw,hs2⟩:=bX hb1
 have HB1:=hide hbw
 have HX1:=hide hx1
 clear hb1 hx0 hx1 hbw HO
 obtain⟨⟨d0,d1,d2,d3,d4,d5,d6,d7,d8,d9,d10⟩,f0,hq1⟩:=eZ HX1.out
 go_wp2_with fail
 exact bodyPost_ret (v:=.tuple #[.agg #[.int .i64 0,.int .i64 0,.int .i64 0,.string .empty,.slice none 0 0,.int .i64 0,.int .i64 0,.string .empty,.slice none 0 0,.string .empty,.int .i64 0],.bool false]) (by simp[results,Tryz.results115,go_sem,d0,d1,d2,d3,d4,d5,d6,d7,d8,d9,d10];rfl) rfl (fA ho.out ((Keeps.set (Keeps.set (Keeps.set (Keeps.set (Keeps.set (Keeps.set (Keeps.set (Keeps.set (Keeps.set (Keeps.set (Keeps.set (Keeps.refl _ _) _ _) _ _) _ _) _ _) _ _) _ _) _ _) _ _) _ _) _ _) _ _).below HB1.out (by omega)))
theorem pE (M _n:Nat) (k u:Int) (s:ByteArray) (xa:Option Addr) (xl xc:Nat) (wd:ByteArray) (a:Option Addr) (len c:Nat) (w:World) (o:Option (Ac (M+1))) (ho:Hid (o=none)) (b1:(wd.toList==[115,101,110,100])=false) (b2:(wd.toList==[115,112,97,119,110])=true) (b3:(wd.toList==[108,105,110,107])=false) (b4:(wd.toList==[115,116,111,112])=false) (hl:((len:Int)==3)=false)
    (HO:Hid (∀w1,Below w.heap.size w w1->Calls Tryz.prog 73 #[.agg #[.int .i64 k,.int .i64 u,.string s,.slice xa xl xc]] w1 fun e w'=>e=.returned (.tuple #[.string wd,.slice a len c])/\Below w1.heap.size w1 w')):
    Calls Tryz.prog 115 #[.agg #[.int .i64 k,.int .i64 u,.string s,.slice xa xl xc]] w (iT M o w):=by
 go_enter Tryz.func115,Tryz.ntmps115
 go_wp2_with fail
 refine(HO.out _ (by go_grown)).mono ?_
 rintro e w1 ⟨rfl,hb1⟩
 obtain⟨hx0,hx1,hbw,hs2⟩:=bX hb1
 have HB1:=hide hbw
 have HX1:=hide hx1
 clear hb1 hx0 hx1 hbw HO
 obtain⟨⟨d0,d1,d2,d3,d4,d5,d6,d7,d8,d9,d10⟩,f0,hq1⟩:=eZ HX1.out
 go_wp2_with fail
 exact bodyPost_ret (v:=.tuple #[.agg #[.int .i64 0,.int .i64 0,.int .i64 0,.string .empty,.slice none 0 0,.int .i64 0,.int .i64 0,.string .empty,.slice none 0 0,.string .empty,.int .i64 0],.bool false]) (by simp[results,Tryz.results115,go_sem,d0,d1,d2,d3,d4,d5,d6,d7,d8,d9,d10];rfl) rfl (fA ho.out ((Keeps.set (Keeps.set (Keeps.set (Keeps.set (Keeps.set (Keeps.set (Keeps.set (Keeps.set (Keeps.set (Keeps.set (Keeps.set (Keeps.refl _ _) _ _) _ _) _ _) _ _) _ _) _ _) _ _) _ _) _ _) _ _) _ _).below HB1.out (by omega)))
theorem qV (M _n:Nat) (k u:Int) (s:ByteArray) (xa:Option Addr) (xl xc:Nat) (wd:ByteArray) (a:Option Addr) (len c:Nat) (w:World) (o:Option (Ac (M+1))) (ho:Hid (o=none)) (b1:(wd.toList==[115,101,110,100])=false) (b2:(wd.toList==[115,112,97,119,110])=false) (b3:(wd.toList==[108,105,110,107])=true) (b4:(wd.toList==[115,116,111,112])=false) (hl:((len:Int)==1)=false)
    (HO:Hid (∀w1,Below w.heap.size w w1->Calls Tryz.prog 73 #[.agg #[.int .i64 k,.int .i64 u,.string s,.slice xa xl xc]] w1 fun e w'=>e=.returned (.tuple #[.string wd,.slice a len c])/\Below w1.heap.size w1 w')):
    Calls Tryz.prog 115 #[.agg #[.int .i64 k,.int .i64 u,.string s,.slice xa xl xc]] w (iT M o w):=by
 go_enter Tryz.func115,Tryz.ntmps115
 go_wp2_with fail
 refine(HO.out _ (by go_grown)).mono ?_
 rintro e w1 ⟨rfl,hb1⟩
 obtain⟨hx0,hx1,hbw,hs2⟩:=bX hb1
 have HB1:=hide hbw
 have HX1:=hide hx1
 clear hb1 hx0 hx1 hbw HO
 obtain⟨⟨d0,d1,d2,d3,d4,d5,d6,d7,d8,d9,d10⟩,f0,hq1⟩:=eZ HX1.out
 go_wp2_with fail
 exact bodyPost_ret (v:=.tuple #[.agg #[.int .i64 0,.int .i64 0,.int .i64 0,.string .empty,.slice none 0 0,.int .i64 0,.int .i64 0,.string .empty,.slice none 0 0,.string .empty,.int .i64 0],.bool false]) (by simp[results,Tryz.results115,go_sem,d0,d1,d2,d3,d4,d5,d6,d7,d8,d9,d10];rfl) rfl (fA ho.out ((Keeps.set (Keeps.set (Keeps.set (Keeps.set (Keeps.set (Keeps.set (Keeps.set (Keeps.set (Keeps.set (Keeps.set (Keeps.set (Keeps.refl _ _) _ _) _ _) _ _) _ _) _ _) _ _) _ _) _ _) _ _) _ _) _ _).below HB1.out (by omega)))
theorem qU (M _n:Nat) (k u:Int) (s:ByteArray) (xa:Option Addr) (xl xc:Nat) (wd:ByteArray) (a:Option Addr) (len c:Nat) (w:World) (o:Option (Ac (M+1))) (ho:Hid (o=none)) (b1:(wd.toList==[115,101,110,100])=false) (b2:(wd.toList==[115,112,97,119,110])=false) (b3:(wd.toList==[108,105,110,107])=false) (b4:(wd.toList==[115,116,111,112])=true) (hl:((len:Int)==0)=false)
    (HO:Hid (∀w1,Below w.heap.size w w1->Calls Tryz.prog 73 #[.agg #[.int .i64 k,.int .i64 u,.string s,.slice xa xl xc]] w1 fun e w'=>e=.returned (.tuple #[.string wd,.slice a len c])/\Below w1.heap.size w1 w')):
    Calls Tryz.prog 115 #[.agg #[.int .i64 k,.int .i64 u,.string s,.slice xa xl xc]] w (iT M o w):=by
 go_enter Tryz.func115,Tryz.ntmps115
 go_wp2_with fail
 refine(HO.out _ (by go_grown)).mono ?_
 rintro e w1 ⟨rfl,hb1⟩
 obtain⟨hx0,hx1,hbw,hs2⟩:=bX hb1
 have HB1:=hide hbw
 have HX1:=hide hx1
 clear hb1 hx0 hx1 hbw HO
 obtain⟨⟨d0,d1,d2,d3,d4,d5,d6,d7,d8,d9,d10⟩,f0,hq1⟩:=eZ HX1.out
 go_wp2_with fail
 exact bodyPost_ret (v:=.tuple #[.agg #[.int .i64 0,.int .i64 0,.int .i64 0,.string .empty,.slice none 0 0,.int .i64 0,.int .i64 0,.string .empty,.slice none 0 0,.string .empty,.int .i64 0],.bool false]) (by simp[results,Tryz.results115,go_sem,d0,d1,d2,d3,d4,d5,d6,d7,d8,d9,d10];rfl) rfl (fA ho.out ((Keeps.set (Keeps.set (Keeps.set (Keeps.set (Keeps.set (Keeps.set (Keeps.set (Keeps.set (Keeps.set (Keeps.set (Keeps.set (Keeps.refl _ _) _ _) _ _) _ _) _ _) _ _) _ _) _ _) _ _) _ _) _ _) _ _).below HB1.out (by omega)))
theorem yX (M _n:Nat) (k u:Int) (s:ByteArray) (xa:Option Addr) (xl xc:Nat) (wd:ByteArray) (a:Option Addr) (len c:Nat) (w:World) (o:Option (Ac (M+1))) (ho:Hid (o=some (4,(zT M,zT M),(.empty,0)))) (b1:(wd.toList==[115,101,110,100])=false) (b2:(wd.toList==[115,112,97,119,110])=false) (b3:(wd.toList==[108,105,110,107])=false) (b4:(wd.toList==[115,116,111,112])=true) (hl:((len:Int)==0)=true)
    (HO:Hid (∀w1,Below w.heap.size w w1->Calls Tryz.prog 73 #[.agg #[.int .i64 k,.int .i64 u,.string s,.slice xa xl xc]] w1 fun e w'=>e=.returned (.tuple #[.string wd,.slice a len c])/\Below w1.heap.size w1 w')):
    Calls Tryz.prog 115 #[.agg #[.int .i64 k,.int .i64 u,.string s,.slice xa xl xc]] w (iT M o w):=by
 go_enter Tryz.func115,Tryz.ntmps115
 go_wp2_with fail
 refine(HO.out _ (by go_grown)).mono ?_
 rintro e w1 ⟨rfl,hb1⟩
 obtain⟨hx0,hx1,hbw,hs2⟩:=bX hb1
 have HB1:=hide hbw
 have HX1:=hide hx1
 clear hb1 hx0 hx1 hbw HO
 obtain⟨⟨d0,d1,d2,d3,d4,d5,d6,d7,d8,d9,d10⟩,f0,hq1⟩:=eZ HX1.out
 go_wp2_with fail
 refine bodyPost_ret (v:=.tuple #[.agg #[.int .i64 4,.int .i64 0,.int .i64 0,.string ⟨#[]⟩,.slice none 0 0,.int .i64 0,.int .i64 0,.string ⟨#[]⟩,.slice none 0 0,.string ⟨#[]⟩,.int .i64 0],.bool true]) (by simp[results,Tryz.results115,go_sem,d0,d1,d2,d3,d4,d5,d6,d7,d8,d9,d10]) rfl ?_
 exact lF (g:=w.heap.size+1) (w2:=w1) (w:=w) (4,(zT M,zT M),(.empty,0)) _ ho.out (Keeps.set (Keeps.set (Keeps.set (Keeps.set (Keeps.set (Keeps.set (Keeps.set (Keeps.set (Keeps.set (Keeps.set (Keeps.set (Keeps.refl _ _) _ _) _ _) _ _) _ _) _ _) _ _) _ _) _ _) _ _) _ _) _ _) HB1.out (by omega) ⟨by simp[bR],jE _ _ _,jE _ _ _,Nat.zero_le _,by simp[bR]⟩ ⟨Or.inl rfl,Or.inl rfl⟩ ⟨rfl,jU (jE _ 0 w),jU (jE _ 0 w),rfl⟩
theorem zD (M n:Nat) (k u:Int) (s:ByteArray) (xa:Option Addr) (xl xc:Nat) (wd:ByteArray) (pb po c:Nat) (w:World) (y:Tm (n+1)) (hn:n+1<=M+1) (o:Option (Ac (M+1))) (ho:Hid (o=some (3,(lift (M+1) (n+1) y,zT M),(.empty,0)))) (b1:(wd.toList==[115,101,110,100])=false) (b2:(wd.toList==[115,112,97,119,110])=false) (b3:(wd.toList==[108,105,110,107])=true) (_b4:(wd.toList==[115,116,111,112])=false) (hpb:pb<w.heap.size) (yc0:w.cell? ⟨pb,po,none⟩=some (.int .i64 y.1.1)) (yc1:w.cell? ⟨pb,po+1,none⟩=some (.int .i64 y.1.2.1)) (yc2:w.cell? ⟨pb,po+2,none⟩=some (.string y.1.2.2)) (yc3:w.cell? ⟨pb,po+3,none⟩=some (.slice y.2.1.1 y.2.2.length y.2.1.2))
    (HO:Hid (∀w1,Below w.heap.size w w1->Calls Tryz.prog 73 #[.agg #[.int .i64 k,.int .i64 u,.string s,.slice xa xl xc]] w1 fun e w'=>e=.returned (.tuple #[.string wd,.slice (some ⟨pb,po,none⟩) 1 c])/\Below w1.heap.size w1 w'))
    (HC:Hid (∀w1,Below w.heap.size w w1->Calls Tryz.prog 45 #[.agg #[.int .i64 y.1.1,.int .i64 y.1.2.1,.string y.1.2.2,.slice y.2.1.1 y.2.2.length y.2.1.2]] w1 fun e w'=>∃z:Tm (n+1),e=.returned (.agg #[.int .i64 z.1.1,.int .i64 z.1.2.1,.string z.1.2.2,.slice z.2.1.1 z.2.2.length z.2.1.2])/\Hid (Below w1.heap.size w1 w'/\In w'.heap.size w' (n+1) z/\Off (fun q=>w1.heap.size<=q) (n+1) z/\same (n+1) z (n+1) y=true))):
    Calls Tryz.prog 115 #[.agg #[.int .i64 k,.int .i64 u,.string s,.slice xa xl xc]] w (iT M o w):=by
 go_enter Tryz.func115,Tryz.ntmps115
 go_wp2_with fail
 refine(HO.out _ (by go_grown)).mono ?_
 rintro e w1 ⟨rfl,hb1⟩
 obtain⟨hx0,hx1,hbw,hs2⟩:=bX hb1
 have HB1:=hide hbw
 have HX1:=hide hx1
 clear hb1 hx0 hx1 hbw HO
 replace yc0:=(af HB1.out _ _ hpb).trans yc0
 replace yc1:=(af HB1.out _ _ hpb).trans yc1
 replace yc2:=(af HB1.out _ _ hpb).trans yc2
 replace yc3:=(af HB1.out _ _ hpb).trans yc3
 have hpw:pb<w1.heap.size:=by omega
 go_wp2_with fail
 refine(HC.out _ HB1.out).mono ?_
 rintro e w2 ⟨z,rfl,HZ⟩
 have HBW:Hid (Below w.heap.size w w2):=HB1.out.trans (HZ.out.1.mono HB1.out.size)
 have HX2:=hide ((HZ.out.1.block (w.heap.size+1) (by omega)).trans HX1.out)
 obtain⟨⟨d0,d1,d2,d3,d4,d5,d6,d7,d8,d9,d10⟩,f0,hq1⟩:=eZ HX2.out
 have HL:=gH (M:=M) hn HZ.out.2.1 (HZ.out.2.2.1.mono fun q (hq:w1.heap.size<=q)=>(show w.heap.size+1<q by omega)) HZ.out.2.2.2
 clear HC HX1 HX2
 go_wp2_with fail
 refine bodyPost_ret (v:=.tuple #[.agg #[.int .i64 3,.int .i64 z.1.1,.int .i64 z.1.2.1,.string z.1.2.2,.slice z.2.1.1 z.2.2.length z.2.1.2,.int .i64 0,.int .i64 0,.string ⟨#[]⟩,.slice none 0 0,.string ⟨#[]⟩,.int .i64 0],.bool true]) (by simp[results,Tryz.results115,go_sem,d0,d1,d2,d3,d4,d5,d6,d7,d8,d9,d10]) rfl ?_
 have e:eG (M+1) (3,(lift (M+1) (n+1) z,zT M),(.empty,0))=[.int .i64 3,.int .i64 z.1.1,.int .i64 z.1.2.1,.string z.1.2.2,.slice z.2.1.1 z.2.2.length z.2.1.2,.int .i64 0,.int .i64 0,.string ⟨#[]⟩,.slice none 0 0,.string ⟨#[]⟩,.int .i64 0]:=by
  show .int .i64 3::(fP (M+1) (lift (M+1) (n+1) z)++fP (M+1) (zT M)++ [.string .empty,.int .i64 0])=_
  rw[eY]
  rfl
 have kk:=fun(w':World) (hk:Keeps (w.heap.size+1) w2 w')=>lF (g:=w.heap.size+1) (w2:=w2) (w:=w) (3,(lift (M+1) (n+1) z,zT M),(.empty,0)) _ ho.out hk HBW.out (by omega) ⟨by simp[bR],HL.1,jE _ _ _,Nat.zero_le _,by simp[bR]⟩ ⟨HL.2.1,Or.inl rfl⟩ ⟨rfl,HL.2.2,jU (jE _ 0 w),rfl⟩
 rw[e]at kk
 exact kk _ (Keeps.set (Keeps.set (Keeps.set (Keeps.set (Keeps.set (Keeps.set (Keeps.set (Keeps.set (Keeps.set (Keeps.set (Keeps.set (Keeps.refl _ _) _ _) _ _) _ _) _ _) _ _) _ _) _ _) _ _) _ _) _ _) _ _)
theorem Og {g pb po:Nat} {w w':World} {y x:Nd} (hg:pb<g) (hk:Keeps g w w')
    (k:(w.cell? ⟨pb,po,none⟩=some (.int .i64 y.1.1)/\w.cell? ⟨pb,po+1,none⟩=some (.int .i64 y.1.2.1)/\w.cell? ⟨pb,po+2,none⟩=some (.string y.1.2.2)/\w.cell? ⟨pb,po+3,none⟩=some (.slice y.2.1 y.2.2.1 y.2.2.2))/\(w.cell? ⟨pb,po+4,none⟩=some (.int .i64 x.1.1)/\w.cell? ⟨pb,po+5,none⟩=some (.int .i64 x.1.2.1)/\w.cell? ⟨pb,po+6,none⟩=some (.string x.1.2.2)/\w.cell? ⟨pb,po+7,none⟩=some (.slice x.2.1 x.2.2.1 x.2.2.2))):
    (w'.cell? ⟨pb,po,none⟩=some (.int .i64 y.1.1)/\w'.cell? ⟨pb,po+1,none⟩=some (.int .i64 y.1.2.1)/\w'.cell? ⟨pb,po+2,none⟩=some (.string y.1.2.2)/\w'.cell? ⟨pb,po+3,none⟩=some (.slice y.2.1 y.2.2.1 y.2.2.2))/\(w'.cell? ⟨pb,po+4,none⟩=some (.int .i64 x.1.1)/\w'.cell? ⟨pb,po+5,none⟩=some (.int .i64 x.1.2.1)/\w'.cell? ⟨pb,po+6,none⟩=some (.string x.1.2.2)/\w'.cell? ⟨pb,po+7,none⟩=some (.slice x.2.1 x.2.2.1 x.2.2.2)):=by
 have h:=fun o=>eP hk (show pb≠g by omega) o
 exact⟨⟨(h _).trans k.1.1,(h _).trans k.1.2.1,(h _).trans k.1.2.2.1,(h _).trans k.1.2.2.2⟩,(h _).trans k.2.1,(h _).trans k.2.2.1,(h _).trans k.2.2.2.1,(h _).trans k.2.2.2.2⟩
theorem Ah (M n:Nat) (k u:Int) (s:ByteArray) (xa:Option Addr) (xl xc:Nat) (wd:ByteArray) (pb po c:Nat) (w:World) (y x:Tm (n+1)) (hn:n+1<=M+1) (o:Option (Ac (M+1))) (ho:Hid (o=some (1,(lift (M+1) (n+1) y,lift (M+1) (n+1) x),(.empty,0)))) (b1:(wd.toList==[115,101,110,100])=true) (_b2:(wd.toList==[115,112,97,119,110])=false) (_b3:(wd.toList==[108,105,110,107])=false) (_b4:(wd.toList==[115,116,111,112])=false) (hpb:pb<w.heap.size) (yc0:w.cell? ⟨pb,po,none⟩=some (.int .i64 y.1.1)) (yc1:w.cell? ⟨pb,po+1,none⟩=some (.int .i64 y.1.2.1)) (yc2:w.cell? ⟨pb,po+2,none⟩=some (.string y.1.2.2)) (yc3:w.cell? ⟨pb,po+3,none⟩=some (.slice y.2.1.1 y.2.2.length y.2.1.2)) (xc0:w.cell? ⟨pb,po+4,none⟩=some (.int .i64 x.1.1)) (xc1:w.cell? ⟨pb,po+5,none⟩=some (.int .i64 x.1.2.1)) (xc2:w.cell? ⟨pb,po+6,none⟩=some (.string x.1.2.2)) (xc3:w.cell? ⟨pb,po+7,none⟩=some (.slice x.2.1.1 x.2.2.length x.2.1.2))
    (HO:Hid (∀w1,Below w.heap.size w w1->Calls Tryz.prog 73 #[.agg #[.int .i64 k,.int .i64 u,.string s,.slice xa xl xc]] w1 fun e w'=>e=.returned (.tuple #[.string wd,.slice (some ⟨pb,po,none⟩) 2 c])/\Below w1.heap.size w1 w'))
    (HC:Hid (∀w1,Below w.heap.size w w1->Calls Tryz.prog 45 #[.agg #[.int .i64 y.1.1,.int .i64 y.1.2.1,.string y.1.2.2,.slice y.2.1.1 y.2.2.length y.2.1.2]] w1 fun e w'=>∃z:Tm (n+1),e=.returned (.agg #[.int .i64 z.1.1,.int .i64 z.1.2.1,.string z.1.2.2,.slice z.2.1.1 z.2.2.length z.2.1.2])/\Hid (Below w1.heap.size w1 w'/\In w'.heap.size w' (n+1) z/\Off (fun q=>w1.heap.size<=q) (n+1) z/\same (n+1) z (n+1) y=true))) (HD:Hid (∀w1,Below w.heap.size w w1->Calls Tryz.prog 45 #[.agg #[.int .i64 x.1.1,.int .i64 x.1.2.1,.string x.1.2.2,.slice x.2.1.1 x.2.2.length x.2.1.2]] w1 fun e w'=>∃z:Tm (n+1),e=.returned (.agg #[.int .i64 z.1.1,.int .i64 z.1.2.1,.string z.1.2.2,.slice z.2.1.1 z.2.2.length z.2.1.2])/\Hid (Below w1.heap.size w1 w'/\In w'.heap.size w' (n+1) z/\Off (fun q=>w1.heap.size<=q) (n+1) z/\same (n+1) z (n+1) x=true))):
    Calls Tryz.prog 115 #[.agg #[.int .i64 k,.int .i64 u,.string s,.slice xa xl xc]] w (iT M o w):=by
 go_enter Tryz.func115,Tryz.ntmps115
 go_wp2_with fail
 refine(HO.out _ (by go_grown)).mono ?_
 rintro e w1 ⟨rfl,hb1⟩
 obtain⟨hx0,hx1,hbw,hs2⟩:=bX hb1
 have HB1:=hide hbw
 have HX1:=hide hx1
 clear hb1 hx0 hx1 hbw HO
 replace yc0:=(af HB1.out _ _ hpb).trans yc0
 replace yc1:=(af HB1.out _ _ hpb).trans yc1
 replace yc2:=(af HB1.out _ _ hpb).trans yc2
 replace yc3:=(af HB1.out _ _ hpb).trans yc3
 replace xc0:=(af HB1.out _ _ hpb).trans xc0
 replace xc1:=(af HB1.out _ _ hpb).trans xc1
 replace xc2:=(af HB1.out _ _ hpb).trans xc2
 replace xc3:=(af HB1.out _ _ hpb).trans xc3
 have hpw:pb<w1.heap.size:=by omega
 have HK:Hid (∀w',Below w1.heap.size w1 w'->(w'.cell? ⟨pb,po,none⟩=some (.int .i64 y.1.1)/\w'.cell? ⟨pb,po+1,none⟩=some (.int .i64 y.1.2.1)/\w'.cell? ⟨pb,po+2,none⟩=some (.string y.1.2.2)/\w'.cell? ⟨pb,po+3,none⟩=some (.slice y.2.1.1 y.2.2.length y.2.1.2))/\(w'.cell? ⟨pb,po+4,none⟩=some (.int .i64 x.1.1)/\w'.cell? ⟨pb,po+5,none⟩=some (.int .i64 x.1.2.1)/\w'.cell? ⟨pb,po+6,none⟩=some (.string x.1.2.2)/\w'.cell? ⟨pb,po+7,none⟩=some (.slice x.2.1.1 x.2.2.length x.2.1.2))):=fun w' h=>by
  have hc:=fun o=>af h pb o hpw
  exact⟨⟨(hc _).trans yc0,(hc _).trans yc1,(hc _).trans yc2,(hc _).trans yc3⟩,(hc _).trans xc0,(hc _).trans xc1,(hc _).trans xc2,(hc _).trans xc3⟩
 go_wp2_with fail
 go_region_held3 (fun w'=>(w'.cell? ⟨pb,po,none⟩=some (.int .i64 y.1.1)/\w'.cell? ⟨pb,po+1,none⟩=some (.int .i64 y.1.2.1)/\w'.cell? ⟨pb,po+2,none⟩=some (.string y.1.2.2)/\w'.cell? ⟨pb,po+3,none⟩=some (.slice y.2.1.1 y.2.2.length y.2.1.2))/\(w'.cell? ⟨pb,po+4,none⟩=some (.int .i64 x.1.1)/\w'.cell? ⟨pb,po+5,none⟩=some (.int .i64 x.1.2.1)/\w'.cell? ⟨pb,po+6,none⟩=some (.string x.1.2.2)/\w'.cell? ⟨pb,po+7,none⟩=some (.slice x.2.1.1 x.2.2.length x.2.1.2))) (first|with_reducible assumption|with_reducible exact HK.out _ HB3.out|with_reducible exact HK.out _ HB2.out|with_reducible exact HKS.out _ _ _ _ _ _ _ _ _ _ _|exact HK.out _ (Below.refl _ _).drew)
  ((first
   | (go_at_call 45;refine(HC.out _ HB1.out.drew).mono ?_;rintro e w2 ⟨z,rfl,HZ⟩;have HB2:=hide (bz HZ.out.1);clear HC)
   | (go_at_call 45;refine(HD.out _ (HB1.out.trans (HB2.out.mono HB1.out.size))).mono ?_;rintro e w3 ⟨q,rfl,HQ⟩;have HB3:=hide (HB2.out.trans (HQ.out.1.mono HB2.out.size));clear HD;have HX3:=hide ((HB3.out.block (w.heap.size+1) (by omega)).trans HX1.out);obtain⟨⟨d0,d1,d2,d3,d4,d5,d6,d7,d8,d9,d10⟩,f0,hq1⟩:=eZ HX3.out;have HKS:Hid (∀v0 v1 v2 v3 v4 v5 v6 v7 v8 v9 v10:Value,((((((((((((w3.setCell ⟨w.heap.size+1,0,none⟩ v0).setCell ⟨w.heap.size+1,1,none⟩ v1).setCell ⟨w.heap.size+1,2,none⟩ v2).setCell ⟨w.heap.size+1,3,none⟩ v3).setCell ⟨w.heap.size+1,4,none⟩ v4).setCell ⟨w.heap.size+1,5,none⟩ v5).setCell ⟨w.heap.size+1,6,none⟩ v6).setCell ⟨w.heap.size+1,7,none⟩ v7).setCell ⟨w.heap.size+1,8,none⟩ v8).setCell ⟨w.heap.size+1,9,none⟩ v9).setCell ⟨w.heap.size+1,10,none⟩ v10).cell? ⟨pb,po,none⟩=some (.int .i64 y.1.1)/\(((((((((((w3.setCell ⟨w.heap.size+1,0,none⟩ v0).setCell ⟨w.heap.size+1,1,none⟩ v1).setCell ⟨w.heap.size+1,2,none⟩ v2).setCell ⟨w.heap.size+1,3,none⟩ v3).setCell ⟨w.heap.size+1,4,none⟩ v4).setCell ⟨w.heap.size+1,5,none⟩ v5).setCell ⟨w.heap.size+1,6,none⟩ v6).setCell ⟨w.heap.size+1,7,none⟩ v7).setCell ⟨w.heap.size+1,8,none⟩ v8).setCell ⟨w.heap.size+1,9,none⟩ v9).setCell ⟨w.heap.size+1,10,none⟩ v10).cell? ⟨pb,po+1,none⟩=some (.int .i64 y.1.2.1)/\(((((((((((w3.setCell ⟨w.heap.size+1,0,none⟩ v0).setCell ⟨w.heap.size+1,1,none⟩ v1).setCell ⟨w.heap.size+1,2,none⟩ v2).setCell ⟨w.heap.size+1,3,none⟩ v3).setCell ⟨w.heap.size+1,4,none⟩ v4).setCell ⟨w.heap.size+1,5,none⟩ v5).setCell ⟨w.heap.size+1,6,none⟩ v6).setCell ⟨w.heap.size+1,7,none⟩ v7).setCell ⟨w.heap.size+1,8,none⟩ v8).setCell ⟨w.heap.size+1,9,none⟩ v9).setCell ⟨w.heap.size+1,10,none⟩ v10).cell? ⟨pb,po+2,none⟩=some (.string y.1.2.2)/\(((((((((((w3.setCell ⟨w.heap.size+1,0,none⟩ v0).setCell ⟨w.heap.size+1,1,none⟩ v1).setCell ⟨w.heap.size+1,2,none⟩ v2).setCell ⟨w.heap.size+1,3,none⟩ v3).setCell ⟨w.heap.size+1,4,none⟩ v4).setCell ⟨w.heap.size+1,5,none⟩ v5).setCell ⟨w.heap.size+1,6,none⟩ v6).setCell ⟨w.heap.size+1,7,none⟩ v7).setCell ⟨w.heap.size+1,8,none⟩ v8).setCell ⟨w.heap.size+1,9,none⟩ v9).setCell ⟨w.heap.size+1,10,none⟩ v10).cell? ⟨pb,po+3,none⟩=some (.slice y.2.1.1 y.2.2.length y.2.1.2))/\((((((((((((w3.setCell ⟨w.heap.size+1,0,none⟩ v0).setCell ⟨w.heap.size+1,1,none⟩ v1).setCell ⟨w.heap.size+1,2,none⟩ v2).setCell ⟨w.heap.size+1,3,none⟩ v3).setCell ⟨w.heap.size+1,4,none⟩ v4).setCell ⟨w.heap.size+1,5,none⟩ v5).setCell ⟨w.heap.size+1,6,none⟩ v6).setCell ⟨w.heap.size+1,7,none⟩ v7).setCell ⟨w.heap.size+1,8,none⟩ v8).setCell ⟨w.heap.size+1,9,none⟩ v9).setCell ⟨w.heap.size+1,10,none⟩ v10).cell? ⟨pb,po+4,none⟩=some (.int .i64 x.1.1)/\(((((((((((w3.setCell ⟨w.heap.size+1,0,none⟩ v0).setCell ⟨w.heap.size+1,1,none⟩ v1).setCell ⟨w.heap.size+1,2,none⟩ v2).setCell ⟨w.heap.size+1,3,none⟩ v3).setCell ⟨w.heap.size+1,4,none⟩ v4).setCell ⟨w.heap.size+1,5,none⟩ v5).setCell ⟨w.heap.size+1,6,none⟩ v6).setCell ⟨w.heap.size+1,7,none⟩ v7).setCell ⟨w.heap.size+1,8,none⟩ v8).setCell ⟨w.heap.size+1,9,none⟩ v9).setCell ⟨w.heap.size+1,10,none⟩ v10).cell? ⟨pb,po+5,none⟩=some (.int .i64 x.1.2.1)/\(((((((((((w3.setCell ⟨w.heap.size+1,0,none⟩ v0).setCell ⟨w.heap.size+1,1,none⟩ v1).setCell ⟨w.heap.size+1,2,none⟩ v2).setCell ⟨w.heap.size+1,3,none⟩ v3).setCell ⟨w.heap.size+1,4,none⟩ v4).setCell ⟨w.heap.size+1,5,none⟩ v5).setCell ⟨w.heap.size+1,6,none⟩ v6).setCell ⟨w.heap.size+1,7,none⟩ v7).setCell ⟨w.heap.size+1,8,none⟩ v8).setCell ⟨w.heap.size+1,9,none⟩ v9).setCell ⟨w.heap.size+1,10,none⟩ v10).cell? ⟨pb,po+6,none⟩=some (.string x.1.2.2)/\(((((((((((w3.setCell ⟨w.heap.size+1,0,none⟩ v0).setCell ⟨w.heap.size+1,1,none⟩ v1).setCell ⟨w.heap.size+1,2,none⟩ v2).setCell ⟨w.heap.size+1,3,none⟩ v3).setCell ⟨w.heap.size+1,4,none⟩ v4).setCell ⟨w.heap.size+1,5,none⟩ v5).setCell ⟨w.heap.size+1,6,none⟩ v6).setCell ⟨w.heap.size+1,7,none⟩ v7).setCell ⟨w.heap.size+1,8,none⟩ v8).setCell ⟨w.heap.size+1,9,none⟩ v9).setCell ⟨w.heap.size+1,10,none⟩ v10).cell? ⟨pb,po+7,none⟩=some (.slice x.2.1.1 x.2.2.length x.2.1.2))):=(fun v0 v1 v2 v3 v4 v5 v6 v7 v8 v9 v10=>Og (y:=aL n y) (x:=aL n x) (show pb<w.heap.size+1 by omega) (Keeps.set (Keeps.set (Keeps.set (Keeps.set (Keeps.set (Keeps.set (Keeps.set (Keeps.set (Keeps.set (Keeps.set (Keeps.set (Keeps.refl _ _) _ _) _ _) _ _) _ _) _ _) _ _) _ _) _ _) _ _) _ _) _ _) (HK.out _ HB3.out)))))
 go_wp2_with fail
 have HBW:Hid (Below w.heap.size w w3):=HB1.out.trans (HB3.out.mono HB1.out.size)
 have h12:w1.heap.size<=w2.heap.size:=HB2.out.size
 have HL:=gH (M:=M) hn ((HZ.out.2.1.below HQ.out.1).mono HQ.out.1.size) (HZ.out.2.2.1.mono fun q (hq:w1.heap.size<=q)=>(show w.heap.size+1<q by omega)) HZ.out.2.2.2
 have HM:=gH (M:=M) hn HQ.out.2.1 (HQ.out.2.2.1.mono fun q (hq:w2.heap.size<=q)=>(show w.heap.size+1<q by omega)) HQ.out.2.2.2
 refine bodyPost_ret (v:=.tuple #[.agg #[.int .i64 1,.int .i64 z.1.1,.int .i64 z.1.2.1,.string z.1.2.2,.slice z.2.1.1 z.2.2.length z.2.1.2,.int .i64 q.1.1,.int .i64 q.1.2.1,.string q.1.2.2,.slice q.2.1.1 q.2.2.length q.2.1.2,.string ⟨#[]⟩,.int .i64 0],.bool true]) (by simp[results,Tryz.results115,go_sem,d0,d1,d2,d3,d4,d5,d6,d7,d8,d9,d10]) rfl ?_
 have e:eG (M+1) (1,(lift (M+1) (n+1) z,lift (M+1) (n+1) q),(.empty,0))=[.int .i64 1,.int .i64 z.1.1,.int .i64 z.1.2.1,.string z.1.2.2,.slice z.2.1.1 z.2.2.length z.2.1.2,.int .i64 q.1.1,.int .i64 q.1.2.1,.string q.1.2.2,.slice q.2.1.1 q.2.2.length q.2.1.2,.string ⟨#[]⟩,.int .i64 0]:=by
  show .int .i64 1::(fP (M+1) (lift (M+1) (n+1) z)++fP (M+1) (lift (M+1) (n+1) q)++ [.string .empty,.int .i64 0])=_
  rw[eY,eY]
  rfl
 have kk:=fun(w':World) (hk:Keeps (w.heap.size+1) w3 w')=>lF (g:=w.heap.size+1) (w2:=w3) (w:=w) (1,(lift (M+1) (n+1) z,lift (M+1) (n+1) q),(.empty,0)) _ ho.out hk HBW.out (by omega) ⟨by simp[bR],HL.1,HM.1,Nat.zero_le _,by simp[bR]⟩ ⟨HL.2.1,HM.2.1⟩ ⟨rfl,HL.2.2,HM.2.2,rfl⟩
 rw[e]at kk
 exact kk _ (Keeps.set (Keeps.set (Keeps.set (Keeps.set (Keeps.set (Keeps.set (Keeps.set (Keeps.set (Keeps.set (Keeps.set (Keeps.set (Keeps.refl _ _) _ _) _ _) _ _) _ _) _ _) _ _) _ _) _ _) _ _) _ _) _ _)
theorem MO {n g pb po:Nat} {w w':World} {y x t:Tm (n+1)} (hg:pb<g) (hk:Keeps g w w')
    (k:(w.cell? ⟨pb,po,none⟩=some (.int .i64 y.1.1)/\w.cell? ⟨pb,po+1,none⟩=some (.int .i64 y.1.2.1)/\w.cell? ⟨pb,po+2,none⟩=some (.string y.1.2.2)/\w.cell? ⟨pb,po+3,none⟩=some (.slice y.2.1.1 y.2.2.length y.2.1.2))/\(w.cell? ⟨pb,po+4,none⟩=some (.int .i64 x.1.1)/\w.cell? ⟨pb,po+5,none⟩=some (.int .i64 x.1.2.1)/\w.cell? ⟨pb,po+6,none⟩=some (.string x.1.2.2)/\w.cell? ⟨pb,po+7,none⟩=some (.slice x.2.1.1 x.2.2.length x.2.1.2))/\(w.cell? ⟨pb,po+8,none⟩=some (.int .i64 t.1.1)/\w.cell? ⟨pb,po+9,none⟩=some (.int .i64 t.1.2.1)/\w.cell? ⟨pb,po+10,none⟩=some (.string t.1.2.2)/\w.cell? ⟨pb,po+11,none⟩=some (.slice t.2.1.1 t.2.2.length t.2.1.2))):
    (w'.cell? ⟨pb,po,none⟩=some (.int .i64 y.1.1)/\w'.cell? ⟨pb,po+1,none⟩=some (.int .i64 y.1.2.1)/\w'.cell? ⟨pb,po+2,none⟩=some (.string y.1.2.2)/\w'.cell? ⟨pb,po+3,none⟩=some (.slice y.2.1.1 y.2.2.length y.2.1.2))/\(w'.cell? ⟨pb,po+4,none⟩=some (.int .i64 x.1.1)/\w'.cell? ⟨pb,po+5,none⟩=some (.int .i64 x.1.2.1)/\w'.cell? ⟨pb,po+6,none⟩=some (.string x.1.2.2)/\w'.cell? ⟨pb,po+7,none⟩=some (.slice x.2.1.1 x.2.2.length x.2.1.2))/\(w'.cell? ⟨pb,po+8,none⟩=some (.int .i64 t.1.1)/\w'.cell? ⟨pb,po+9,none⟩=some (.int .i64 t.1.2.1)/\w'.cell? ⟨pb,po+10,none⟩=some (.string t.1.2.2)/\w'.cell? ⟨pb,po+11,none⟩=some (.slice t.2.1.1 t.2.2.length t.2.1.2)):=by
 have h:=fun o=>eP hk (show pb≠g by omega) o
 exact⟨⟨(h _).trans k.1.1,(h _).trans k.1.2.1,(h _).trans k.1.2.2.1,(h _).trans k.1.2.2.2⟩,⟨(h _).trans k.2.1.1,(h _).trans k.2.1.2.1,(h _).trans k.2.1.2.2.1,(h _).trans k.2.1.2.2.2⟩,(h _).trans k.2.2.1,(h _).trans k.2.2.2.1,(h _).trans k.2.2.2.2.1,(h _).trans k.2.2.2.2.2⟩
theorem xx (M n:Nat) (k u:Int) (s:ByteArray) (xa:Option Addr) (xl xc:Nat) (wd:ByteArray) (pb po c:Nat) (w:World) (y x t:Tm (n+1)) (o:Option (Ac (M+1))) (b1:(wd.toList==[115,101,110,100])=false) (b2:(wd.toList==[115,112,97,119,110])=true) (_b3:(wd.toList==[108,105,110,107])=false) (_b4:(wd.toList==[115,116,111,112])=false) (hpb:pb<w.heap.size) (yc0:w.cell? ⟨pb,po,none⟩=some (.int .i64 y.1.1)) (yc1:w.cell? ⟨pb,po+1,none⟩=some (.int .i64 y.1.2.1)) (yc2:w.cell? ⟨pb,po+2,none⟩=some (.string y.1.2.2)) (yc3:w.cell? ⟨pb,po+3,none⟩=some (.slice y.2.1.1 y.2.2.length y.2.1.2)) (xc0:w.cell? ⟨pb,po+4,none⟩=some (.int .i64 x.1.1)) (xc1:w.cell? ⟨pb,po+5,none⟩=some (.int .i64 x.1.2.1)) (xc2:w.cell? ⟨pb,po+6,none⟩=some (.string x.1.2.2)) (xc3:w.cell? ⟨pb,po+7,none⟩=some (.slice x.2.1.1 x.2.2.length x.2.1.2)) (tc0:w.cell? ⟨pb,po+8,none⟩=some (.int .i64 t.1.1)) (tc1:w.cell? ⟨pb,po+9,none⟩=some (.int .i64 t.1.2.1)) (tc2:w.cell? ⟨pb,po+10,none⟩=some (.string t.1.2.2)) (tc3:w.cell? ⟨pb,po+11,none⟩=some (.slice t.2.1.1 t.2.2.length t.2.1.2))
    (HO:Hid (∀w1,Below w.heap.size w w1->Calls Tryz.prog 73 #[.agg #[.int .i64 k,.int .i64 u,.string s,.slice xa xl xc]] w1 fun e w'=>e=.returned (.tuple #[.string wd,.slice (some ⟨pb,po,none⟩) 3 c])/\Below w1.heap.size w1 w'))
    (HC:Hid (∀w1,Below w.heap.size w w1->Calls Tryz.prog 131 #[.agg #[.int .i64 y.1.1,.int .i64 y.1.2.1,.string y.1.2.2,.slice y.2.1.1 y.2.2.length y.2.1.2],.agg #[.int .i64 x.1.1,.int .i64 x.1.2.1,.string x.1.2.2,.slice x.2.1.1 x.2.2.length x.2.1.2],.agg #[.int .i64 t.1.1,.int .i64 t.1.2.1,.string t.1.2.2,.slice t.2.1.1 t.2.2.length t.2.1.2]] w1 (iT M o w1))):
    Calls Tryz.prog 115 #[.agg #[.int .i64 k,.int .i64 u,.string s,.slice xa xl xc]] w (iT M o w):=by
 go_enter Tryz.func115,Tryz.ntmps115
 go_wp2_with fail
 refine(HO.out _ (by go_grown)).mono ?_
 rintro e w1 ⟨rfl,hb1⟩
 obtain⟨hx0,hx1,hbw,hs2⟩:=bX hb1
 have HB1:=hide hbw
 have HX1:=hide hx1
 clear hb1 hx0 hx1 hbw HO
 replace yc0:=(af HB1.out _ _ hpb).trans yc0
 replace yc1:=(af HB1.out _ _ hpb).trans yc1
 replace yc2:=(af HB1.out _ _ hpb).trans yc2
 replace yc3:=(af HB1.out _ _ hpb).trans yc3
 replace xc0:=(af HB1.out _ _ hpb).trans xc0
 replace xc1:=(af HB1.out _ _ hpb).trans xc1
 replace xc2:=(af HB1.out _ _ hpb).trans xc2
 replace xc3:=(af HB1.out _ _ hpb).trans xc3
 replace tc0:=(af HB1.out _ _ hpb).trans tc0
 replace tc1:=(af HB1.out _ _ hpb).trans tc1
 replace tc2:=(af HB1.out _ _ hpb).trans tc2
 replace tc3:=(af HB1.out _ _ hpb).trans tc3
 have hpw:pb<w1.heap.size:=by omega
 have HK:Hid (∀w',Below w1.heap.size w1 w'->(w'.cell? ⟨pb,po,none⟩=some (.int .i64 y.1.1)/\w'.cell? ⟨pb,po+1,none⟩=some (.int .i64 y.1.2.1)/\w'.cell? ⟨pb,po+2,none⟩=some (.string y.1.2.2)/\w'.cell? ⟨pb,po+3,none⟩=some (.slice y.2.1.1 y.2.2.length y.2.1.2))/\(w'.cell? ⟨pb,po+4,none⟩=some (.int .i64 x.1.1)/\w'.cell? ⟨pb,po+5,none⟩=some (.int .i64 x.1.2.1)/\w'.cell? ⟨pb,po+6,none⟩=some (.string x.1.2.2)/\w'.cell? ⟨pb,po+7,none⟩=some (.slice x.2.1.1 x.2.2.length x.2.1.2))/\(w'.cell? ⟨pb,po+8,none⟩=some (.int .i64 t.1.1)/\w'.cell? ⟨pb,po+9,none⟩=some (.int .i64 t.1.2.1)/\w'.cell? ⟨pb,po+10,none⟩=some (.string t.1.2.2)/\w'.cell? ⟨pb,po+11,none⟩=some (.slice t.2.1.1 t.2.2.length t.2.1.2))):=fun w' h=>by
  have hc:=fun o=>af h pb o hpw
  exact⟨⟨(hc _).trans yc0,(hc _).trans yc1,(hc _).trans yc2,(hc _).trans yc3⟩,⟨(hc _).trans xc0,(hc _).trans xc1,(hc _).trans xc2,(hc _).trans xc3⟩,(hc _).trans tc0,(hc _).trans tc1,(hc _).trans tc2,(hc _).trans tc3⟩
 go_wp2_with fail
 go_region_held3 (fun w'=>(w'.cell? ⟨pb,po,none⟩=some (.int .i64 y.1.1)/\w'.cell? ⟨pb,po+1,none⟩=some (.int .i64 y.1.2.1)/\w'.cell? ⟨pb,po+2,none⟩=some (.string y.1.2.2)/\w'.cell? ⟨pb,po+3,none⟩=some (.slice y.2.1.1 y.2.2.length y.2.1.2))/\(w'.cell? ⟨pb,po+4,none⟩=some (.int .i64 x.1.1)/\w'.cell? ⟨pb,po+5,none⟩=some (.int .i64 x.1.2.1)/\w'.cell? ⟨pb,po+6,none⟩=some (.string x.1.2.2)/\w'.cell? ⟨pb,po+7,none⟩=some (.slice x.2.1.1 x.2.2.length x.2.1.2))/\(w'.cell? ⟨pb,po+8,none⟩=some (.int .i64 t.1.1)/\w'.cell? ⟨pb,po+9,none⟩=some (.int .i64 t.1.2.1)/\w'.cell? ⟨pb,po+10,none⟩=some (.string t.1.2.2)/\w'.cell? ⟨pb,po+11,none⟩=some (.slice t.2.1.1 t.2.2.length t.2.1.2))) (first|with_reducible assumption|with_reducible exact HK.out _ HB3.out|with_reducible exact HKS.out _ _ _ _ _ _ _ _ _ _ _|exact HK.out _ (Below.refl _ _).drew)
  ((go_at_call 131;refine(HC.out _ HB1.out.drew).mono ?_;rintro e w3 ⟨r,b,rfl,HZ⟩;have e4:Value.agg (eG (M+1) r).toArray=.agg #[.int .i64 r.1,.int .i64 r.2.1.1.1.1,.int .i64 r.2.1.1.1.2.1,.string r.2.1.1.1.2.2,.slice r.2.1.1.2.1.1 r.2.1.1.2.2.length r.2.1.1.2.1.2,.int .i64 r.2.1.2.1.1,.int .i64 r.2.1.2.1.2.1,.string r.2.1.2.1.2.2,.slice r.2.1.2.2.1.1 r.2.1.2.2.2.length r.2.1.2.2.1.2,.string r.2.2.1,.int .i64 r.2.2.2]:=rfl;rw[e4];clear e4;have HB3:=hide (bz HZ.out.1);clear HC;have HX3:=hide ((HB3.out.block (w.heap.size+1) (by omega)).trans HX1.out);obtain⟨⟨d0,d1,d2,d3,d4,d5,d6,d7,d8,d9,d10⟩,f0,hq1⟩:=eZ HX3.out;have HKS:Hid (∀v0 v1 v2 v3 v4 v5 v6 v7 v8 v9 v10:Value,((((((((((((w3.setCell ⟨w.heap.size+1,0,none⟩ v0).setCell ⟨w.heap.size+1,1,none⟩ v1).setCell ⟨w.heap.size+1,2,none⟩ v2).setCell ⟨w.heap.size+1,3,none⟩ v3).setCell ⟨w.heap.size+1,4,none⟩ v4).setCell ⟨w.heap.size+1,5,none⟩ v5).setCell ⟨w.heap.size+1,6,none⟩ v6).setCell ⟨w.heap.size+1,7,none⟩ v7).setCell ⟨w.heap.size+1,8,none⟩ v8).setCell ⟨w.heap.size+1,9,none⟩ v9).setCell ⟨w.heap.size+1,10,none⟩ v10).cell? ⟨pb,po,none⟩=some (.int .i64 y.1.1)/\(((((((((((w3.setCell ⟨w.heap.size+1,0,none⟩ v0).setCell ⟨w.heap.size+1,1,none⟩ v1).setCell ⟨w.heap.size+1,2,none⟩ v2).setCell ⟨w.heap.size+1,3,none⟩ v3).setCell ⟨w.heap.size+1,4,none⟩ v4).setCell ⟨w.heap.size+1,5,none⟩ v5).setCell ⟨w.heap.size+1,6,none⟩ v6).setCell ⟨w.heap.size+1,7,none⟩ v7).setCell ⟨w.heap.size+1,8,none⟩ v8).setCell ⟨w.heap.size+1,9,none⟩ v9).setCell ⟨w.heap.size+1,10,none⟩ v10).cell? ⟨pb,po+1,none⟩=some (.int .i64 y.1.2.1)/\(((((((((((w3.setCell ⟨w.heap.size+1,0,none⟩ v0).setCell ⟨w.heap.size+1,1,none⟩ v1).setCell ⟨w.heap.size+1,2,none⟩ v2).setCell ⟨w.heap.size+1,3,none⟩ v3).setCell ⟨w.heap.size+1,4,none⟩ v4).setCell ⟨w.heap.size+1,5,none⟩ v5).setCell ⟨w.heap.size+1,6,none⟩ v6).setCell ⟨w.heap.size+1,7,none⟩ v7).setCell ⟨w.heap.size+1,8,none⟩ v8).setCell ⟨w.heap.size+1,9,none⟩ v9).setCell ⟨w.heap.size+1,10,none⟩ v10).cell? ⟨pb,po+2,none⟩=some (.string y.1.2.2)/\(((((((((((w3.setCell ⟨w.heap.size+1,0,none⟩ v0).setCell ⟨w.heap.size+1,1,none⟩ v1).setCell ⟨w.heap.size+1,2,none⟩ v2).setCell ⟨w.heap.size+1,3,none⟩ v3).setCell ⟨w.heap.size+1,4,none⟩ v4).setCell ⟨w.heap.size+1,5,none⟩ v5).setCell ⟨w.heap.size+1,6,none⟩ v6).setCell ⟨w.heap.size+1,7,none⟩ v7).setCell ⟨w.heap.size+1,8,none⟩ v8).setCell ⟨w.heap.size+1,9,none⟩ v9).setCell ⟨w.heap.size+1,10,none⟩ v10).cell? ⟨pb,po+3,none⟩=some (.slice y.2.1.1 y.2.2.length y.2.1.2))/\((((((((((((w3.setCell ⟨w.heap.size+1,0,none⟩ v0).setCell ⟨w.heap.size+1,1,none⟩ v1).setCell ⟨w.heap.size+1,2,none⟩ v2).setCell ⟨w.heap.size+1,3,none⟩ v3).setCell ⟨w.heap.size+1,4,none⟩ v4).setCell ⟨w.heap.size+1,5,none⟩ v5).setCell ⟨w.heap.size+1,6,none⟩ v6).setCell ⟨w.heap.size+1,7,none⟩ v7).setCell ⟨w.heap.size+1,8,none⟩ v8).setCell ⟨w.heap.size+1,9,none⟩ v9).setCell ⟨w.heap.size+1,10,none⟩ v10).cell? ⟨pb,po+4,none⟩=some (.int .i64 x.1.1)/\(((((((((((w3.setCell ⟨w.heap.size+1,0,none⟩ v0).setCell ⟨w.heap.size+1,1,none⟩ v1).setCell ⟨w.heap.size+1,2,none⟩ v2).setCell ⟨w.heap.size+1,3,none⟩ v3).setCell ⟨w.heap.size+1,4,none⟩ v4).setCell ⟨w.heap.size+1,5,none⟩ v5).setCell ⟨w.heap.size+1,6,none⟩ v6).setCell ⟨w.heap.size+1,7,none⟩ v7).setCell ⟨w.heap.size+1,8,none⟩ v8).setCell ⟨w.heap.size+1,9,none⟩ v9).setCell ⟨w.heap.size+1,10,none⟩ v10).cell? ⟨pb,po+5,none⟩=some (.int .i64 x.1.2.1)/\(((((((((((w3.setCell ⟨w.heap.size+1,0,none⟩ v0).setCell ⟨w.heap.size+1,1,none⟩ v1).setCell ⟨w.heap.size+1,2,none⟩ v2).setCell ⟨w.heap.size+1,3,none⟩ v3).setCell ⟨w.heap.size+1,4,none⟩ v4).setCell ⟨w.heap.size+1,5,none⟩ v5).setCell ⟨w.heap.size+1,6,none⟩ v6).setCell ⟨w.heap.size+1,7,none⟩ v7).setCell ⟨w.heap.size+1,8,none⟩ v8).setCell ⟨w.heap.size+1,9,none⟩ v9).setCell ⟨w.heap.size+1,10,none⟩ v10).cell? ⟨pb,po+6,none⟩=some (.string x.1.2.2)/\(((((((((((w3.setCell ⟨w.heap.size+1,0,none⟩ v0).setCell ⟨w.heap.size+1,1,none⟩ v1).setCell ⟨w.heap.size+1,2,none⟩ v2).setCell ⟨w.heap.size+1,3,none⟩ v3).setCell ⟨w.heap.size+1,4,none⟩ v4).setCell ⟨w.heap.size+1,5,none⟩ v5).setCell ⟨w.heap.size+1,6,none⟩ v6).setCell ⟨w.heap.size+1,7,none⟩ v7).setCell ⟨w.heap.size+1,8,none⟩ v8).setCell ⟨w.heap.size+1,9,none⟩ v9).setCell ⟨w.heap.size+1,10,none⟩ v10).cell? ⟨pb,po+7,none⟩=some (.slice x.2.1.1 x.2.2.length x.2.1.2))/\((((((((((((w3.setCell ⟨w.heap.size+1,0,none⟩ v0).setCell ⟨w.heap.size+1,1,none⟩ v1).setCell ⟨w.heap.size+1,2,none⟩ v2).setCell ⟨w.heap.size+1,3,none⟩ v3).setCell ⟨w.heap.size+1,4,none⟩ v4).setCell ⟨w.heap.size+1,5,none⟩ v5).setCell ⟨w.heap.size+1,6,none⟩ v6).setCell ⟨w.heap.size+1,7,none⟩ v7).setCell ⟨w.heap.size+1,8,none⟩ v8).setCell ⟨w.heap.size+1,9,none⟩ v9).setCell ⟨w.heap.size+1,10,none⟩ v10).cell? ⟨pb,po+8,none⟩=some (.int .i64 t.1.1)/\(((((((((((w3.setCell ⟨w.heap.size+1,0,none⟩ v0).setCell ⟨w.heap.size+1,1,none⟩ v1).setCell ⟨w.heap.size+1,2,none⟩ v2).setCell ⟨w.heap.size+1,3,none⟩ v3).setCell ⟨w.heap.size+1,4,none⟩ v4).setCell ⟨w.heap.size+1,5,none⟩ v5).setCell ⟨w.heap.size+1,6,none⟩ v6).setCell ⟨w.heap.size+1,7,none⟩ v7).setCell ⟨w.heap.size+1,8,none⟩ v8).setCell ⟨w.heap.size+1,9,none⟩ v9).setCell ⟨w.heap.size+1,10,none⟩ v10).cell? ⟨pb,po+9,none⟩=some (.int .i64 t.1.2.1)/\(((((((((((w3.setCell ⟨w.heap.size+1,0,none⟩ v0).setCell ⟨w.heap.size+1,1,none⟩ v1).setCell ⟨w.heap.size+1,2,none⟩ v2).setCell ⟨w.heap.size+1,3,none⟩ v3).setCell ⟨w.heap.size+1,4,none⟩ v4).setCell ⟨w.heap.size+1,5,none⟩ v5).setCell ⟨w.heap.size+1,6,none⟩ v6).setCell ⟨w.heap.size+1,7,none⟩ v7).setCell ⟨w.heap.size+1,8,none⟩ v8).setCell ⟨w.heap.size+1,9,none⟩ v9).setCell ⟨w.heap.size+1,10,none⟩ v10).cell? ⟨pb,po+10,none⟩=some (.string t.1.2.2)/\(((((((((((w3.setCell ⟨w.heap.size+1,0,none⟩ v0).setCell ⟨w.heap.size+1,1,none⟩ v1).setCell ⟨w.heap.size+1,2,none⟩ v2).setCell ⟨w.heap.size+1,3,none⟩ v3).setCell ⟨w.heap.size+1,4,none⟩ v4).setCell ⟨w.heap.size+1,5,none⟩ v5).setCell ⟨w.heap.size+1,6,none⟩ v6).setCell ⟨w.heap.size+1,7,none⟩ v7).setCell ⟨w.heap.size+1,8,none⟩ v8).setCell ⟨w.heap.size+1,9,none⟩ v9).setCell ⟨w.heap.size+1,10,none⟩ v10).cell? ⟨pb,po+11,none⟩=some (.slice t.2.1.1 t.2.2.length t.2.1.2))):=(fun v0 v1 v2 v3 v4 v5 v6 v7 v8 v9 v10=>MO (y:=y) (x:=x) (t:=t) (show pb<w.heap.size+1 by omega) (Keeps.set (Keeps.set (Keeps.set (Keeps.set (Keeps.set (Keeps.set (Keeps.set (Keeps.set (Keeps.set (Keeps.set (Keeps.set (Keeps.refl _ _) _ _) _ _) _ _) _ _) _ _) _ _) _ _) _ _) _ _) _ _) _ _) (HK.out _ HB3.out))))
 go_wp2_with fail
 have HBW:Hid (Below w.heap.size w w3):=HB1.out.trans (HB3.out.mono HB1.out.size)
 refine bodyPost_ret (v:=.tuple #[.agg #[.int .i64 r.1,.int .i64 r.2.1.1.1.1,.int .i64 r.2.1.1.1.2.1,.string r.2.1.1.1.2.2,.slice r.2.1.1.2.1.1 r.2.1.1.2.2.length r.2.1.1.2.1.2,.int .i64 r.2.1.2.1.1,.int .i64 r.2.1.2.1.2.1,.string r.2.1.2.1.2.2,.slice r.2.1.2.2.1.1 r.2.1.2.2.2.length r.2.1.2.2.1.2,.string r.2.2.1,.int .i64 r.2.2.2],.bool b]) (by simp[results,Tryz.results115,go_sem,d0,d1,d2,d3,d4,d5,d6,d7,d8,d9,d10]) rfl ?_
 have kk:∀w',Keeps (w.heap.size+1) w3 w'->iT M o w (.returned (.tuple #[.agg #[.int .i64 r.1,.int .i64 r.2.1.1.1.1,.int .i64 r.2.1.1.1.2.1,.string r.2.1.1.1.2.2,.slice r.2.1.1.2.1.1 r.2.1.1.2.2.length r.2.1.1.2.1.2,.int .i64 r.2.1.2.1.1,.int .i64 r.2.1.2.1.2.1,.string r.2.1.2.1.2.2,.slice r.2.1.2.2.1.1 r.2.1.2.2.2.length r.2.1.2.2.1.2,.string r.2.2.1,.int .i64 r.2.2.2],.bool b])) w':=fun w' hk=>⟨r,b,rfl,hk.below HBW.out (by omega),HZ.out.2.1,hk.stays (dW _) (P:=fun q=>w1.heap.size<=q) (by omega) HZ.out.2.2.2.1 HZ.out.2.2.1,(dW _).1 _ _ _ (fun q (hq:w1.heap.size<=q)=>(show w.heap.size<=q by omega)) HZ.out.2.2.2.1,HZ.out.2.2.2.2⟩
 exact kk _ (Keeps.set (Keeps.set (Keeps.set (Keeps.set (Keeps.set (Keeps.set (Keeps.set (Keeps.set (Keeps.set (Keeps.set (Keeps.set (Keeps.refl _ _) _ _) _ _) _ _) _ _) _ _) _ _) _ _) _ _) _ _) _ _) _ _)
theorem fU {n B:Nat} {w:World} {q:List (Tm (n+1))} {pb po:Nat} (h:Lies B w (n+1) q (some ⟨pb,po,none⟩)) {i:Nat} {y:Tm (n+1)} (hy:q[i]? =some y):Held w pb (po+i*4) (n+1) y/\In B w (n+1) y/\pb<B:=by
 rcases h with h|⟨b,o,e,hb,h⟩
 ·subst h;simp at hy
 ·injection e with e
  injection e with e1 e2
  subst e1 e2
  exact⟨(h i y hy).1,(h i y hy).2,hb⟩
theorem pq {B:Nat} {w:World} {q:List (Tm 0)} {a:Option Addr} (h:Lies B w 0 q a) {i:Nat} {y:Tm 0} (hy:q[i]? =some y):False:=by
 rcases h with h|⟨_,_,_,_,h⟩
 ·subst h;simp at hy
 ·exact(h i y hy).1
theorem p8 {n B:Nat} {w:World} {q:List (Tm n)} {a:Option Addr} (h:Lies B w n q a) (h0:0<q.length):∃b o,a=some ⟨b,o,none⟩:=by
 rcases h with h|⟨b,o,e,_⟩
 ·subst h;simp at h0
 ·exact⟨b,o,e⟩
theorem dB {n:Nat} {x:Tm (n+1)} (hr:ai ⟨n+1,x⟩) {y:Tm n} (hy:y∈aR n x):ai ⟨n,y⟩:=by
 unfold aR at hy
 split at hy
 ·split at hy
  ·split at hy
   ·exact aH n x y hr (List.mem_of_mem_drop hy)
   ·cases hy
  ·cases hy
 ·cases hy
theorem qK (n:Nat) (x:Tm (n+1)) (B:Nat) (w:World) (hx:In B w (n+1) x) (hB:B<=w.heap.size):
    ∃a c,Lies B w n (aR n x) a/\(aR n x).length<=c/\c<=9223372036854775807/\∀w1,Below w.heap.size w w1->Calls Tryz.prog 73 #[.agg #[.int .i64 x.1.1,.int .i64 x.1.2.1,.string x.1.2.2,.slice x.2.1.1 x.2.2.length x.2.1.2]] w1 fun e w'=>e=.returned (.tuple #[.string (dM n x),.slice a (aR n x).length c])/\Below w1.heap.size w1 w':=by
 obtain⟨⟨k,u,s⟩,⟨a,c⟩,p⟩:=x
 obtain⟨⟨_,_,_,hl,hc⟩,hp⟩:=hx
 simp only at hl hc hp ⊢
 have hc':c<=9223372036854775807:=by unfold maxLen at hc;omega
 by_cases k4:k=4
 ·subst k4
  rcases hp with hp|⟨b,o,rfl,hb,hp⟩
  ·subst hp
   exact⟨none,0,Or.inl rfl,Nat.le_refl _,Nat.zero_le _,fun w1 _=>AB u s a c w1⟩
  ·cases p with
   | nil=>exact⟨none,0,Or.inl rfl,Nat.le_refl _,Nat.zero_le _,fun w1 _=>AB u s _ c w1⟩
   | cons h p=>
    obtain⟨h1,h2⟩:=hp 0 h rfl
    cases n with
    | zero=>exact h1.elim
    | succ n=>
    obtain⟨c0,c1,c2,c3⟩:=h1
    by_cases hk:h.1.1=2
    ·have e1:dM (n+1) ((4,u,s),(some ⟨b,o,none⟩,c),h::p)=h.1.2.2:=by simp[dM,aU,hk,gZ,aL]
     have e2:aR (n+1) ((4,u,s),(some ⟨b,o,none⟩,c),h::p)=p:=by simp[aR,aU,hk]
     rw[e1,e2]
     refine⟨if c=1 then some ⟨b,o,none⟩else some ⟨b,o+4,none⟩,c-1, ?_,by simp at hl;omega,by omega,fun w1 hw=> ?_⟩
     ·by_cases h1:c=1
      ·exact Or.inl (List.eq_nil_of_length_eq_zero (by simp at hl;omega))
      ·rw[if_neg h1]
       refine Or.inr ⟨b,o+4,rfl,hb,fun i y hy=> ?_⟩
       have:=hp (i+1) y (by simpa using hy)
       rw[show o+4+i*4=o+(i+1)*4 by omega]
       exact this
     ·have hbw:b<w.heap.size:=by omega
      have h:=Hq u s b o (h::p).length c (by simp) hl hc' h.1.2.2 w1 (Nat.lt_of_lt_of_le hbw hw.size) ((af hw _ _ hbw).trans (by rw[hk]at c0;simpa using c0)) ((af hw _ _ hbw).trans (by simpa using c2))
      exact h
    ·have e1:dM (n+1) ((4,u,s),(some ⟨b,o,none⟩,c),h::p)=⟨#[]⟩:=by simp[dM,aU,hk];rfl
     have e2:aR (n+1) ((4,u,s),(some ⟨b,o,none⟩,c),h::p)=[]:=by simp[aR,aU,hk]
     rw[e1,e2]
     have hbw:b<w.heap.size:=by omega
     exact⟨none,0,Or.inl rfl,Nat.le_refl _,Nat.zero_le _,fun w1 hw=>E9 u s b o (h::p).length c (by simp) h.1.1 (by simpa using hk) w1 (Nat.lt_of_lt_of_le hbw hw.size) ((af hw _ _ hbw).trans (by simpa using c0))⟩
 ·have e1:dM n ((k,u,s),(a,c),p)=⟨#[]⟩:=by simp[dM,k4];rfl
  have e2:aR n ((k,u,s),(a,c),p)=[]:=by simp[aR,k4]
  rw[e1,e2]
  exact⟨none,0,Or.inl rfl,Nat.le_refl _,Nat.zero_le _,fun w1 _=>GX k u s a p.length c w1 (by simpa using k4)⟩
theorem kN {n:Nat} {y:Tm (n+1)} {B:Nat} {w:World} (hy:In B w (n+1) y) (hr:ai ⟨n+1,y⟩) (hB:B<=w.heap.size):∀w1,Below w.heap.size w w1->Calls Tryz.prog 45 #[.agg #[.int .i64 y.1.1,.int .i64 y.1.2.1,.string y.1.2.2,.slice y.2.1.1 y.2.2.length y.2.1.2]] w1 fun e w'=>∃z:Tm (n+1),e=.returned (.agg #[.int .i64 z.1.1,.int .i64 z.1.2.1,.string z.1.2.2,.slice z.2.1.1 z.2.2.length z.2.1.2])/\Hid (Below w1.heap.size w1 w'/\In w'.heap.size w' (n+1) z/\Off (fun q=>w1.heap.size<=q) (n+1) z/\same (n+1) z (n+1) y=true):=
 fun w1 h1=>fV (n+1) y B w1 (hy.below (h1.mono hB)) (Nat.le_trans hB h1.size) hr
theorem nG {a:Bool} (h:¬a=true):a=false:=by cases a<;>simp_all
theorem OV {l k:Nat} (h:l=k):((l:Int)==(k:Int))=true:=by simp[h]
theorem wJ {l k:Nat} (h:¬l=k):((l:Int)==(k:Int))=false:=by simp;omega
theorem CL (M n:Nat) (hn:n<=M+1) (x:Tm n) (B:Nat) (w:World) (hx:In B w n x) (hr:ai ⟨n,x⟩) (hB:B<=w.heap.size):
    Calls Tryz.prog 115 #[val n x] w (iT M (rz M n x) w):=by
 cases n with
 | zero=>exact hx.elim
 | succ n=>
 obtain⟨a,c,hq,hlc,hc,HO⟩:=qK n x B w hx hB
 show Calls Tryz.prog 115 #[.agg #[.int .i64 x.1.1,.int .i64 x.1.2.1,.string x.1.2.2,.slice x.2.1.1 x.2.2.length x.2.1.2]] w (iT M (iQ M n (dM n x) (aR n x)) w)
 have hrp:∀y∈aR n x,ai ⟨n,y⟩:=fun y hy=>dB hr hy
 generalize dM n x=wd at*
 generalize aR n x=q at*
 have E1:sF wd iG=(wd.toList==[115,101,110,100]):=lg wd [115,101,110,100]
 have E2:sF wd iR=(wd.toList==[115,112,97,119,110]):=lg wd [115,112,97,119,110]
 have E3:sF wd lL=(wd.toList==[108,105,110,107]):=lg wd [108,105,110,107]
 have E4:sF wd lI=(wd.toList==[115,116,111,112]):=lg wd [115,116,111,112]
 have ne:∀(l r:List UInt8),(l==r)=false->(wd.toList==l)=true->(wd.toList==r)=false:=fun l r h1 h2=>by
  have e:wd.toList=l:=by simpa using h2
  rw[e]
  exact h1
 have get:∀i,i<q.length->∃y,q[i]? =some y:=fun i hi=>⟨q[i],List.getElem?_eq_getElem hi⟩
 by_cases b1:(wd.toList==[115,101,110,100])=true
 ·have b2:=ne _ [115,112,97,119,110] (by decide) b1
  have b3:=ne _ [108,105,110,107] (by decide) b1
  have b4:=ne _ [115,116,111,112] (by decide) b1
  by_cases hl:q.length=2
  ·obtain⟨y,hy⟩:=get 0 (by omega)
   obtain⟨z,hz⟩:=get 1 (by omega)
   have ho:iQ M n wd q=some (1,(lift (M+1) n y,lift (M+1) n z),(.empty,0)):=by
    unfold iQ
    rw[if_pos (by rw[E1,b1,hl];rfl),hy,hz]
    rfl
   rw[ho]
   rw[hl]at HO
   obtain⟨pb,po,rfl⟩:=p8 hq (by omega)
   cases n with
   | zero=>exact(pq hq hy).elim
   | succ n=>
   obtain⟨⟨c0,c1,c2,c3⟩,hyi,hpb⟩:=fU hq hy
   obtain⟨⟨d0,d1,d2,d3⟩,hzi,_⟩:=fU hq hz
   exact Ah M n _ _ _ _ _ _ wd pb po c w y z (by omega) _ rfl b1 b2 b3 b4 (by omega) (by simpa using c0) (by simpa using c1) (by simpa using c2) (by simpa using c3) (by simpa using d0) (by simpa using d1) (by simpa using d2) (by simpa using d3) HO (kN hyi (hrp y (List.mem_of_getElem? hy)) hB) (kN hzi (hrp z (List.mem_of_getElem? hz)) hB)
  ·have ho:iQ M n wd q=none:=by simp[iQ,E1,E2,E3,E4,b2,b3,b4,hl]
   exact qP M n _ _ _ _ _ _ wd a q.length c w _ ho b1 b2 b3 b4 (wJ hl) HO
 replace b1:=nG b1
 by_cases b2:(wd.toList==[115,112,97,119,110])=true
 ·have b3:=ne _ [108,105,110,107] (by decide) b2
  have b4:=ne _ [115,116,111,112] (by decide) b2
  by_cases hl:q.length=3
  ·obtain⟨y,hy⟩:=get 0 (by omega)
   obtain⟨z,hz⟩:=get 1 (by omega)
   obtain⟨t,ht⟩:=get 2 (by omega)
   have ho:iQ M n wd q=Aj M n y z t:=by
    unfold iQ
    rw[if_neg (by rw[E1,b1];simp),if_pos (by rw[E2,b2,hl];rfl),hy,hz,ht]
    rfl
   rw[ho]
   rw[hl]at HO
   obtain⟨pb,po,rfl⟩:=p8 hq (by omega)
   cases n with
   | zero=>exact(pq hq hy).elim
   | succ n=>
   obtain⟨⟨c0,c1,c2,c3⟩,hyi,hpb⟩:=fU hq hy
   obtain⟨⟨d0,d1,d2,d3⟩,hzi,_⟩:=fU hq hz
   obtain⟨⟨e0,e1,e2,e3⟩,hti,_⟩:=fU hq ht
   exact xx M n _ _ _ _ _ _ wd pb po c w y z t _ b1 b2 b3 b4 (by omega) (by simpa using c0) (by simpa using c1) (by simpa using c2) (by simpa using c3) (by simpa using d0) (by simpa using d1) (by simpa using d2) (by simpa using d3) (by simpa using e0) (by simpa using e1) (by simpa using e2) (by simpa using e3) HO (fun w1 h1=>xh M n (by omega) y z t B w1 (hyi.below (h1.mono hB)) (hzi.below (h1.mono hB)) (hti.below (h1.mono hB)) (hrp y (List.mem_of_getElem? hy)) (hrp z (List.mem_of_getElem? hz)) (Nat.le_trans hB h1.size))
  ·have ho:iQ M n wd q=none:=by simp[iQ,E1,E2,E3,E4,b1,b3,b4,hl]
   exact pE M n _ _ _ _ _ _ wd a q.length c w _ ho b1 b2 b3 b4 (wJ hl) HO
 replace b2:=nG b2
 by_cases b3:(wd.toList==[108,105,110,107])=true
 ·have b4:=ne _ [115,116,111,112] (by decide) b3
  by_cases hl:q.length=1
  ·obtain⟨y,hy⟩:=get 0 (by omega)
   have ho:iQ M n wd q=some (3,(lift (M+1) n y,zT M),(.empty,0)):=by
    unfold iQ
    rw[if_neg (by rw[E1,b1];simp),if_neg (by rw[E2,b2];simp),if_pos (by rw[E3,b3,hl];rfl),hy]
    rfl
   rw[ho]
   rw[hl]at HO
   obtain⟨pb,po,rfl⟩:=p8 hq (by omega)
   cases n with
   | zero=>exact(pq hq hy).elim
   | succ n=>
   obtain⟨⟨c0,c1,c2,c3⟩,hyi,hpb⟩:=fU hq hy
   exact zD M n _ _ _ _ _ _ wd pb po c w y (by omega) _ rfl b1 b2 b3 b4 (by omega) (by simpa using c0) (by simpa using c1) (by simpa using c2) (by simpa using c3) HO (kN hyi (hrp y (List.mem_of_getElem? hy)) hB)
  ·have ho:iQ M n wd q=none:=by simp[iQ,E1,E2,E3,E4,b1,b2,b4,hl]
   exact qV M n _ _ _ _ _ _ wd a q.length c w _ ho b1 b2 b3 b4 (wJ hl) HO
 replace b3:=nG b3
 by_cases b4:(wd.toList==[115,116,111,112])=true
 ·by_cases hl:q.length=0
  ·have ho:iQ M n wd q=some (4,(zT M,zT M),(.empty,0)):=by simp[iQ,E1,E2,E3,E4,b1,b2,b3,b4,hl]
   rw[ho]
   exact yX M n _ _ _ _ _ _ wd a q.length c w _ rfl b1 b2 b3 b4 (OV hl) HO
  ·have ho:iQ M n wd q=none:=by simp[iQ,E1,E2,E3,E4,b1,b2,b3,hl]
   exact qU M n _ _ _ _ _ _ wd a q.length c w _ ho b1 b2 b3 b4 (wJ hl) HO
 replace b4:=nG b4
 have ho:iQ M n wd q=none:=by simp[iQ,E1,E2,E3,E4,b1,b2,b3,b4]
 exact zg M n _ _ _ _ _ _ wd a q.length c w _ ho b1 b2 b3 b4 HO
end Go.Proofs.YtmbjgiaebneodaaGreat
