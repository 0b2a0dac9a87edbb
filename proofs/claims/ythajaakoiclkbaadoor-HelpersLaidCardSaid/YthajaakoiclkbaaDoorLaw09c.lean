/-
  Layer 9: the law HelpersLaid, reckoned: some of its ways.
-/
import Derived.Test.YthajaakoiclkbaaDoorLaw09b
namespace Go.Proofs.YthajaakoiclkbaaDoor.Ex
open Go Go.RowKit
def hl00Cs (k0 k1 v0 v1 v2 v3 : Int) : Cs := [(1, 1),
  (1, 1),
  (1, 1),
  (1, 1),
  (1, 1),
  (1, 1),
  (b2i ((⟨⟨[UInt8.ofNat (UInt8.ofNat k0.toNat).toNat, UInt8.ofNat (UInt8.ofNat k1.toNat).toNat]⟩⟩ : ByteArray).data.toList == (⟨⟨[UInt8.ofNat (UInt8.ofNat k0.toNat).toNat, UInt8.ofNat (UInt8.ofNat k1.toNat).toNat]⟩⟩ : ByteArray).data.toList), 1),
  (b2i (!((⟨⟨[laidB v0, laidB v1, laidB v2, laidB v3]⟩⟩ : ByteArray).data.toList == (⟨⟨[UInt8.ofNat v0.toNat, UInt8.ofNat v1.toNat, UInt8.ofNat v2.toNat, UInt8.ofNat v3.toNat]⟩⟩ : ByteArray).data.toList)), 0),
  (b2i (!eqD [.int .u64 196608, .string (⟨⟨[97, 98, 99, UInt8.ofNat (UInt8.ofNat k0.toNat).toNat, UInt8.ofNat (UInt8.ofNat k1.toNat).toNat, UInt8.ofNat (UInt8.ofNat v0.toNat).toNat, UInt8.ofNat (UInt8.ofNat v1.toNat).toNat, UInt8.ofNat (UInt8.ofNat v2.toNat).toNat, UInt8.ofNat (UInt8.ofNat v3.toNat).toNat, 122]⟩⟩ : ByteArray), .bool true] [.int .u64 196608, .string (⟨⟨[97, 98, 99, UInt8.ofNat (UInt8.ofNat k0.toNat).toNat, UInt8.ofNat (UInt8.ofNat k1.toNat).toNat, UInt8.ofNat (UInt8.ofNat v0.toNat).toNat, UInt8.ofNat (UInt8.ofNat v1.toNat).toNat, UInt8.ofNat (UInt8.ofNat v2.toNat).toNat, UInt8.ofNat (UInt8.ofNat v3.toNat).toNat, 122]⟩⟩ : ByteArray), .bool true]), 0),
  (b2i (!eqD [.int .u64 1114112, .string (⟨⟨[laidB v0, laidB v1, laidB v2, laidB v3, 0, 0, 0, 0, 0, 0, 0, 0]⟩⟩ : ByteArray), .bool true] [.int .u64 1114112, .string (⟨⟨[0, 0, 0, 0, 0, 0, 0, 0, 0, 0, 0, 0]⟩⟩ : ByteArray), .bool true]), 0),
  (b2i ((⟨⟨[UInt8.ofNat (UInt8.ofNat k0.toNat).toNat, UInt8.ofNat (UInt8.ofNat k1.toNat).toNat]⟩⟩ : ByteArray).data.toList == (⟨⟨[UInt8.ofNat (UInt8.ofNat k0.toNat).toNat, UInt8.ofNat (UInt8.ofNat k1.toNat).toNat]⟩⟩ : ByteArray).data.toList), 1)]
set_option maxHeartbeats 0 in
set_option maxRecDepth 1000000 in
theorem hl00_run (k0 k1 v0 v1 v2 v3 : Int) (w : World) (hL : Laid h09 w) (he : (hl00Cs k0 k1 v0 v1 v2 v3).map (·.1) = (hl00Cs k0 k1 v0 v1 v2 v3).map (·.2)) :
    Calls Tryd.prog 3 #[.agg ⟨[.int .u8 k0, .int .u8 k1]⟩, .agg ⟨[.int .u8 v0, .int .u8 v1, .int .u8 v2, .int .u8 v3]⟩, .int .u64 0] w fun e w' => e = .returned (.bool true) ∧ Gr w w' :=
  reckonT_ok noNG calledHook_ok (hlOrc false) 100000 300 h09 (cs := hl00Cs k0 k1 v0 v1 v2 v3) rfl rfl (by kernel_rfl) he w hL
end Go.Proofs.YthajaakoiclkbaaDoor.Ex
