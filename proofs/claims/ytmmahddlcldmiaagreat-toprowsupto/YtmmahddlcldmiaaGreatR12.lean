/- What is proved here: the library contract of slices.SortFunc, where it is called, laid at this program: the text that the laying tool prints, one theorem of it. -/
import Derived.Ground.SlsfProg
import Derived.Shelf.SlSortCmp.NoneTotal
import Derived.Test.YtmmahddlcldmiaaGreatProg
namespace Go.Proofs
open Go.Shelf Go.Proofs.Tryz
def Tryz.laysSlF06_f94_ren:Go.Shelf.Ren:=⟨λ|6=>94|15=>92|14=>138|28=>135|29=>136|20=>168|21=>169|22=>170|23=>171|24=>172|25=>173|26=>174|27=>175|46=>191|47=>164|48=>165|49=>192|50=>193|57=>203|n=>n,λ|22=>43|24=>44|25=>138|3=>3|39=>184|0=>0|53=>227|55=>229|4=>4|46=>219|45=>218|50=>224|5=>5|9=>9|66=>255|70=>259|76=>280|77=>281|n=>n,λ|n=>n⟩
theorem Tryz.laysSlF06_f94:Go.Proofs.SlLaysF0.n6 Tryz.prog Tryz.laysSlF06_f94_ren:={
 mixed:=by kernel_rfl
 f6:=⟨Tryz.f94.name,by decide,func94.trans (congrArg some (by kernel_rfl))⟩
 f14:=⟨Tryz.f138.name,by decide,func138.trans (congrArg some (by kernel_rfl))⟩
 f15:=func92.trans (congrArg some (by kernel_rfl))
 f20:=⟨Tryz.f168.name,by decide,func168.trans (congrArg some (by kernel_rfl))⟩
 f21:=⟨Tryz.f169.name,by decide,func169.trans (congrArg some (by kernel_rfl))⟩
 f22:=⟨Tryz.f170.name,by decide,func170.trans (congrArg some (by kernel_rfl))⟩
 f23:=⟨Tryz.f171.name,by decide,func171.trans (congrArg some (by kernel_rfl))⟩
 f24:=⟨Tryz.f172.name,by decide,func172.trans (congrArg some (by kernel_rfl))⟩
 f25:=⟨Tryz.f173.name,by decide,func173.trans (congrArg some (by kernel_rfl))⟩
 f26:=⟨Tryz.f174.name,by decide,func174.trans (congrArg some (by kernel_rfl))⟩
 f27:=⟨Tryz.f175.name,by decide,func175.trans (congrArg some (by kernel_rfl))⟩
 f28:=func135.trans (congrArg some (by kernel_rfl))
 f29:=func136.trans (congrArg some (by kernel_rfl))
 f46:=⟨Tryz.f191.name,by decide,func191.trans (congrArg some (by kernel_rfl))⟩
 f47:=func164.trans (congrArg some (by kernel_rfl))
 f48:=func165.trans (congrArg some (by kernel_rfl))
 f49:=⟨Tryz.f192.name,by decide,func192.trans (congrArg some (by kernel_rfl))⟩
 f50:=⟨Tryz.f193.name,by decide,func193.trans (congrArg some (by kernel_rfl))⟩
 f57:=⟨Tryz.f203.name,by decide,func203.trans (congrArg some (by kernel_rfl))⟩
 t0:=underlying0
 a0:=Tryz.isAgg0
 z0:=Tryz.sizeOf0
 v0:=Tryz.zeroValue0
 t3:=underlying3
 a3:=Tryz.isAgg3
 z3:=Tryz.sizeOf3
 v3:=Tryz.zeroValue3
 t4:=underlying4
 a4:=Tryz.isAgg4
 z4:=Tryz.sizeOf4
 v4:=Tryz.zeroValue4
 t5:=underlying5
 a5:=Tryz.isAgg5
 z5:=Tryz.sizeOf5
 v5:=Tryz.zeroValue5
 t9:=underlying9
 a9:=Tryz.isAgg9
 z9:=Tryz.sizeOf9
 v9:=Tryz.zeroValue9
 t22:=underlying43
 a22:=Tryz.isAgg43
 z22:=Tryz.sizeOf43
 v22:=Tryz.zeroValue43
 t25:=underlying138
 a25:=Tryz.isAgg138
 z25:=Tryz.sizeOf138
 v25:=Tryz.zeroValue138
 t39:=underlying184
 a39:=Tryz.isAgg184
 z39:=Tryz.sizeOf184
 v39:=Tryz.zeroValue184
 t45:=underlying218
 a45:=Tryz.isAgg218
 z45:=Tryz.sizeOf218
 v45:=Tryz.zeroValue218
 t46:=underlying219
 a46:=Tryz.isAgg219
 z46:=Tryz.sizeOf219
 v46:=Tryz.zeroValue219
 t50:=underlying224
 a50:=Tryz.isAgg224
 z50:=Tryz.sizeOf224
 v50:=Tryz.zeroValue224
 t53:=underlying227
 a53:=Tryz.isAgg227
 z53:=Tryz.sizeOf227
 v53:=Tryz.zeroValue227
 t55:=underlying229
 a55:=Tryz.isAgg229
 z55:=Tryz.sizeOf229
 v55:=Tryz.zeroValue229
 t66:=underlying255
 a66:=Tryz.isAgg255
 z66:=Tryz.sizeOf255
 v66:=Tryz.zeroValue255
 t70:=underlying259
 a70:=Tryz.isAgg259
 z70:=Tryz.sizeOf259
 v70:=Tryz.zeroValue259
 t76:=underlying280
 a76:=Tryz.isAgg280
 z76:=Tryz.sizeOf280
 v76:=Tryz.zeroValue280
 t77:=underlying281
 a77:=Tryz.isAgg281
 z77:=Tryz.sizeOf281
 v77:=Tryz.zeroValue281}
open Go.RowKit Go.Lib Go.Sort in
theorem Tryz.slices_SortFunc_total{c:Type}[Inhabited c](k:Nat)(h:∀w,(isAgg 44).run Tryz.prog w=.ok true w)(t:∀w,(Go.sizeOf 44).run Tryz.prog w=.ok k w)(enc:c->List Value)(r:∀x,(enc x).length=k)(j:∀x,∀v∈enc x,v.oneCell'=true)(b:c->c->Int)(m:SWO (ltOf b))(g:Nat)(f:Array Value)(a off cap:Nat)(d:Array c)(w:World)(i:∀args w,(callFunc g args).run Tryz.prog w=.ok (.enter g args) w)(q:CmpLays Tryz.prog g f enc k b a off d.size w)(l:HoldsK enc k w a off d)(p:a<w.heap.size)(s:d.size<4611686018427387904)(o:∀x y,(ltOf b) x y=false->(ltOf b) y x=false->x=y):Calls Tryz.prog 94 #[.slice (some ⟨a,off,none⟩) d.size cap,.func (.func g) #[] f] w λe w'=>
     e=.returned (.tuple #[])/\∃n os,w'=sortWorldK enc k w a off n (d.toList.mergeSort λx y=> !(ltOf b) y x).toArray os:=AnyQ.slices_SortFunc_total Tryz.laysSlF06_f94 k h t enc r j b m g f a off cap d w i q l p s o
end Go.Proofs
